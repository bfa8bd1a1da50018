import PyProof.Rows.All
import HandS.TupSets
import HandS.ForMost
import HandS.SetKeys
import HandS.DictComp
import HandS.Defaults
import HandS.SortInts
import HandS.Conv
import HandS.IsInst
import HandS.Deep
import HandS.Style
import HandS.Codes
import Wide.All
import KE.KDictZip
import HandS.Iter
import HandS.Comp
import HandS.FStr
import HandS.Text
import HandS.Star
import HandS.Flow
import KE.DataFind
import KE.KeyNested
import HandS.Dict
import KE.DataMinKey
import KE.LtSeq
import HandS.More
import HandS.SortKw
import HandS.FltList
import PyProof.SeqI3
import KE.DataMinMax
import PyProof.WalksMore
import HandS.Walk
import HandS.RevRange
import OpenK.AllK
import Wide.FinOn
import KE.KStateDown
import HandS.Head0
import HandS.Head1
import HandS.Head2
import HandS.Head3
import HandS.HeadEnd
import HandS.HeadHook1
import HandS.HeadHook2
import HandS.HeadHook4
import PySem.Challenge.RW_denseround_k19_asked_again
set_option Elab.async false
set_option linter.all false
set_option maxRecDepth 100000
set_option maxHeartbeats 4000000
/-! Sets of tuples of ints with up to some hundred members: the table's masks 7, 31, 127, 511 and 2047. -/
namespace DR
open PySem PySem.Spec PyProof.Rows L2

/-! ### every slot is met: the round of x -> 5 x + 1, as bits of one number -/
def cov (m : Nat) : Nat → Nat → Nat → Nat
  | 0, _, acc => acc
  | n + 1, x, acc => cov m n ((x * 5 + 1) % (m + 1)) (acc ||| (1 <<< x))
theorem lcgI_shift (m x : Nat) : ∀ b, lcgI m ((x * 5 + 1) % (m + 1)) b = lcgI m x (b + 1)
  | 0 => rfl
  | b + 1 => by
    show (lcgI m ((x * 5 + 1) % (m + 1)) b * 5 + 1) % (m + 1) = (lcgI m x (b + 1) * 5 + 1) % (m + 1)
    rw [lcgI_shift m x b]
theorem cov_bit (m : Nat) : ∀ (n x acc j : Nat), (cov m n x acc).testBit j = true → acc.testBit j = true ∨ ∃ b, b < n ∧ lcgI m x b = j
  | 0, _, _, _, h => .inl h
  | n + 1, x, acc, j, h => by
    rcases cov_bit m n _ _ j h with q | ⟨b, hb, e⟩
    · rw [Nat.testBit_or, Nat.one_shiftLeft, Nat.testBit_two_pow, Bool.or_eq_true, decide_eq_true_eq] at q
      rcases q with q | q
      · exact .inl q
      · exact .inr ⟨0, Nat.succ_pos _, q⟩
    · exact .inr ⟨b + 1, Nat.succ_lt_succ hb, by rw [← lcgI_shift]; exact e⟩
/-- a mask that serves -/
structure Good (m : Nat) : Prop where
  five : m = 7 ∨ m = 31 ∨ m = 127 ∨ m = 511 ∨ m = 2047
  all : ∀ i j, i ≤ m → j ≤ m → ∃ k, k ≤ m ∧ lcgI m i k = j
theorem lcgI_tail (m x a : Nat) : ∀ k, lcgI m (lcgI m x a) k = lcgI m x (a + k)
  | 0 => rfl
  | k + 1 => by
    show (lcgI m (lcgI m x a) k * 5 + 1) % (m + 1) = (lcgI m x (a + k) * 5 + 1) % (m + 1)
    rw [lcgI_tail m x a k]
theorem Good.odd {m : Nat} (g : Good m) : m % 2 = 1 := by
  rcases g.five with e | e | e | e | e <;> subst e <;> rfl
theorem Good.big {m : Nat} (g : Good m) : m ≤ 2047 := by
  have := g.five
  omega
theorem good_of (m : Nat) (h1 : m = 7 ∨ m = 31 ∨ m = 127 ∨ m = 511 ∨ m = 2047) (h3 : cov m (m + 1) 0 0 = 2 ^ (m + 1) - 1) (h4 : lcgI m 0 (m + 1) = 0) : Good m where
  five := h1
  all := fun i j hi hj => by
    have from0 : ∀ x, x ≤ m → ∃ b, b < m + 1 ∧ lcgI m 0 b = x := fun x hx => by
      have q : (cov m (m + 1) 0 0).testBit x = true := by
        rw [h3, Nat.testBit_two_pow_sub_one]
        exact decide_eq_true (Nat.lt_succ_of_le hx)
      rcases cov_bit m (m + 1) 0 0 x q with z | z
      · rw [Nat.zero_testBit] at z
        cases z
      · exact z
    obtain ⟨a, ha, ea⟩ := from0 i hi
    obtain ⟨b, hb, eb⟩ := from0 j hj
    have turn : ∀ k, lcgI m 0 (m + 1 + k) = lcgI m 0 k := fun k => by
      rw [← lcgI_tail, h4]
    by_cases c : a ≤ b
    · exact ⟨b - a, by omega, by rw [← ea, lcgI_tail, show a + (b - a) = b by omega, eb]⟩
    · exact ⟨m + 1 + b - a, by omega, by rw [← ea, lcgI_tail, show a + (m + 1 + b - a) = m + 1 + b by omega, turn, eb]⟩
theorem good7 : Good 7 := good_of 7 (by decide) (by decide +kernel) (by decide +kernel)
theorem good31 : Good 31 := good_of 31 (by decide) (by decide +kernel) (by decide +kernel)
theorem good127 : Good 127 := good_of 127 (by decide) (by decide +kernel) (by decide +kernel)
theorem good511 : Good 511 := good_of 511 (by decide) (by decide +kernel) (by decide +kernel)
theorem good2047 : Good 2047 := good_of 2047 (by decide) (by decide +kernel) (by decide +kernel)
theorem Good.runs {m : Nat} (g : Good m) (h : Int) {j : Nat} (hj : j ≤ m) : ∃ n, n ≤ m + 12 ∧ runI m (SetTable.bits h) n = j := by
  obtain ⟨k, hk, e⟩ := g.all _ j (runI_le m (SetTable.bits h) 12) hj
  refine ⟨12 + k, by omega, ?_⟩
  rw [runI_tail (bits_lt h), e]
theorem Good.meets {m : Nat} (g : Good m) (h : Int) {j : Nat} (hj : j ≤ m) : ∃ k, k < 10 * SetTable.turns m ∧ way m h k = j := by
  obtain ⟨n, hn, e⟩ := g.runs h hj
  obtain ⟨k, hk, e2⟩ := run_nth m (SetTable.bits h) n
  have h10 : 10 * SetTable.turns m = 10 * (m + 15) := rfl
  exact ⟨k, by omega, (congrArg SetTable.Probe.j e2).trans e⟩
theorem way_in {m : Nat} (h : Int) (k : Nat) : way m h k ≤ m := by
  have hi : SetTable.bits h % (m + 1) ≤ m := Nat.le_of_lt_succ (Nat.mod_lt _ (Nat.succ_pos _))
  have r := runEnd_bd hi
  have q := nth_in (m := m) k (runAt m (SetTable.bits h % (m + 1)) (SetTable.bits h)) (show SetTable.bits h % (m + 1) + (SetTable.runEnd m (SetTable.bits h % (m + 1)) - SetTable.bits h % (m + 1)) ≤ m by omega)
  exact Nat.le_trans (Nat.le_add_right _ _) q

/-! ### the table -/
structure Tab (t : SetTable) (hs : List Int) : Prop where
  asc : Ris t.place.toList
  nod : t.dummies = #[]
  long : t.place.toList.length = hs.length
  good : Good t.mask
  inside : ∀ x ∈ t.place.toList, x ≤ t.mask
  found : ∀ (i : Nat) (h : Int) (j : Nat), hs[i]? = some h → t.place.toList[i]? = some j → ∃ k, way t.mask h k = j ∧ ∀ c, c < k → way t.mask h c ∈ t.place.toList
theorem Tab.gap {t : SetTable} {hs : List Int} (T : Tab t hs) (hl : hs.length ≤ t.mask) (h : Int) : ∃ K, K < 10 * SetTable.turns t.mask ∧ way t.mask h K ∉ t.place.toList ∧ ∀ c, c < K → way t.mask h c ∈ t.place.toList := by
  obtain ⟨j, hj, hn⟩ := st_missing t.place.toList (t.mask + 1) (by have := T.long; omega)
  obtain ⟨k, hk, e⟩ := T.good.meets h (Nat.le_of_lt_succ hj)
  obtain ⟨K, h1, h2, h3⟩ := st_least (p := fun k => way t.mask h k ∉ t.place.toList) k (by rw [e]; exact hn)
  exact ⟨K, Nat.lt_of_le_of_lt h1 hk, h2, fun c hc => Classical.byContradiction fun z => h3 c hc z⟩
theorem Tab.ahead {t : SetTable} {hs : List Int} (T : Tab t hs) {h : Int} {K i j : Nat} (hK : way t.mask h K ∉ t.place.toList) (hi : hs[i]? = some h) (hj : t.place.toList[i]? = some j) : ∃ k, k < K ∧ way t.mask h k = j := by
  obtain ⟨k, e, hb⟩ := T.found i h j hi hj
  refine ⟨k, ?_, e⟩
  by_cases c : k < K
  · exact c
  · exfalso
    by_cases d : k = K
    · subst d
      rw [e] at hK
      exact hK (List.mem_of_getElem? hj)
    · exact hK (hb K (by omega))
/-- one more at its own first free slot -/
theorem Tab.put {t : SetTable} {hs : List Int} (T : Tab t hs) {h : Int} {K : Nat} (hK : way t.mask h K ∉ t.place.toList) (hb : ∀ c, c < K → way t.mask h c ∈ t.place.toList) :
    SetTable.below t.place (way t.mask h K) ≤ hs.length ∧ Tab (t.put (way t.mask h K)).1 (hs.take (SetTable.below t.place (way t.mask h K)) ++ h :: hs.drop (SetTable.below t.place (way t.mask h K))) := by
  have hjm : way t.mask h K ≤ t.mask := way_in h K
  generalize hj : way t.mask h K = j at hK hjm ⊢
  obtain ⟨c1, _, _⟩ := below_cut T.asc j
  have hpl : SetTable.below t.place j ≤ t.place.toList.length := by
    rw [Array.length_toList]
    exact c1
  have hph : SetTable.below t.place j ≤ hs.length := T.long ▸ hpl
  have hpp := put_place t j
  have up : ∀ {x : Nat}, x ∈ t.place.toList → x ∈ (t.put j).1.place.toList := fun {x} hx => by
    rw [hpp]
    exact mem_ins.2 (.inr hx)
  refine ⟨hph, ⟨ris_insert T.asc (fun e => hK (List.mem_of_getElem? (by rw [Array.getElem?_toList]; exact e))), put_dm T.nod j, ?_, T.good, fun x hx => ?_, fun i h' j' h1 h2 => ?_⟩⟩
  · rw [hpp, len_ins _ hpl, len_ins _ hph, T.long]
  · rw [hpp] at hx
    rcases mem_ins.1 hx with z | z
    · exact z ▸ hjm
    · exact T.inside x z
  · rw [tins_get hs hph] at h1
    rw [hpp, tins_get _ hpl] at h2
    show ∃ k, way t.mask h' k = j' ∧ ∀ c, c < k → way t.mask h' c ∈ (t.put j).1.place.toList
    by_cases d : i = SetTable.below t.place j
    · subst d
      rw [if_neg (Nat.lt_irrefl _), if_pos rfl] at h1 h2
      obtain rfl := Option.some.inj h1
      obtain rfl := Option.some.inj h2
      exact ⟨K, hj, fun c hc => up (hb c hc)⟩
    · have old : ∀ i', hs[i']? = some h' → t.place.toList[i']? = some j' → ∃ k, way t.mask h' k = j' ∧ ∀ c, c < k → way t.mask h' c ∈ (t.put j).1.place.toList := fun i' a b => by
        obtain ⟨k, e, z⟩ := T.found i' h' j' a b
        exact ⟨k, e, fun c hc => up (z c hc)⟩
      by_cases c : i < SetTable.below t.place j
      · rw [if_pos c] at h1 h2
        exact old i h1 h2
      · rw [if_neg c, if_neg d] at h1 h2
        exact old (i - 1) h1 h2

/-! ### all laid anew -/
theorem free_at {m : Nat} (g : Good m) (owner : Array (Option Nat)) (h : Int) {j : Nat} (hj : j ≤ m) (hf : oAt owner j = none) :
    ∃ K, SetTable.layClean.free m owner (SetTable.turns m) (SetTable.bits h % (m + 1)) (SetTable.bits h) = some (way m h K) ∧ oAt owner (way m h K) = none ∧ ∀ c, c < K → oAt owner (way m h c) ≠ none := by
  obtain ⟨n, hn, e⟩ := g.runs h hj
  have hw : way m h (off m (SetTable.bits h % (m + 1)) (SetTable.bits h) n) = j := by
    show (nth m _ _).j = j
    rw [nth_off, itL_run]
    exact e
  obtain ⟨K, k1, k2, k3⟩ := st_least (p := fun c => oAt owner (way m h c) = none) _ (hw.symm ▸ hf)
  refine ⟨K, free_spec m owner (SetTable.turns m) n _ _ K (show n < m + 15 by omega) k1 (fun c hc => ?_) (by rw [k2]; rfl), k2, k3⟩
  have q := k3 c hc
  show (oAt owner (way m h c)).isNone = false
  cases z : oAt owner (way m h c) with
  | none => exact absurd z q
  | some _ => rfl
theorem own_step {m : Nat} (g : Good m) {done : List Int} {owner : Array (Option Nat)} (W : Own m done owner) (hl : done.length ≤ m) (h : Int) :
    ∃ j, SetTable.layClean.free m owner (SetTable.turns m) (SetTable.bits h % (m + 1)) (SetTable.bits h) = some j ∧ Own m (done ++ [h]) (owner.setIfInBounds j (some done.length)) := by
  obtain ⟨ps, hps, hin⟩ := W.ps
  obtain ⟨j0, h0, hn0⟩ := st_missing ps (m + 1) (by omega)
  have hj0 : oAt owner j0 = none := Classical.byContradiction fun z => hn0 (hin j0 (Nat.le_of_lt_succ h0) z)
  obtain ⟨K, e1, e2, e3⟩ := free_at g owner h (Nat.le_of_lt_succ h0) hj0
  have hjm : way m h K ≤ m := way_in h K
  generalize hq : way m h K = q at e1 e2 hjm
  have hself := oAt_set_self (owner := owner) (j := q) (some done.length) (by rw [W.sz]; omega)
  have mono : ∀ {i : Nat}, oAt owner i ≠ none → oAt (owner.setIfInBounds q (some done.length)) i ≠ none := fun {i} hi => by
    by_cases c : i = q
    · rw [c, hself]
      intro z
      cases z
    · rw [oAt_set_ne _ c]
      exact hi
  refine ⟨q, e1, ⟨by rw [Array.size_setIfInBounds]; exact W.sz, fun j k hj e => ?_, fun k hk => ?_, ⟨q :: ps, by simp [hps], fun j hj e => ?_⟩⟩⟩
  · by_cases c : j = q
    · subst c
      rw [hself] at e
      obtain rfl := Option.some.inj e
      exact ⟨h, K, by simp, hq, fun c hc => mono (e3 c hc)⟩
    · rw [oAt_set_ne _ c] at e
      obtain ⟨h', K', a1, a2, a3⟩ := W.at_ j k hj e
      exact ⟨h', K', by rw [List.getElem?_append_left (List.getElem?_eq_some_iff.mp a1).1]; exact a1, a2, fun c hc => mono (a3 c hc)⟩
  · rw [List.length_append, List.length_singleton] at hk
    by_cases c : k = done.length
    · exact ⟨q, hjm, by rw [hself, c]⟩
    · obtain ⟨j, hj, e⟩ := W.all k (by omega)
      exact ⟨j, hj, by rw [oAt_set_ne _ (fun z => by rw [z, e2] at e; cases e)]; exact e⟩
  · by_cases c : j = q
    · rw [c]
      exact List.mem_cons_self
    · rw [oAt_set_ne _ c] at e
      exact List.mem_cons_of_mem _ (hin j hj e)
theorem fold_all {m : Nat} (g : Good m) : ∀ (rest done : List Int) (owner : Array (Option Nat)), Own m done owner → done.length + rest.length ≤ m →
    ∃ owner', rest.foldl (stepF m) (some (owner, done.length)) = some (owner', (done ++ rest).length) ∧ Own m (done ++ rest) owner'
  | [], done, owner, W, _ => ⟨owner, by simp, by simpa using W⟩
  | h :: rest, done, owner, W, hl => by
    rw [List.length_cons] at hl
    obtain ⟨j, e, W'⟩ := own_step g W (by omega) h
    obtain ⟨owner', f, W2⟩ := fold_all g rest (done ++ [h]) _ W' (by simp; omega)
    refine ⟨owner', ?_, by simpa using W2⟩
    rw [List.foldl_cons, stepF_some e]
    simpa using f
theorem lay_all {m : Nat} (g : Good m) {hs : Array Int} (hn : hs.size ≤ m) : ∃ owner, SetTable.layClean m hs = some owner ∧ Own m hs.toList owner := by
  obtain ⟨owner, f, W⟩ := fold_all g hs.toList [] _ (Own.init m) (by simpa using hn)
  refine ⟨owner, ?_, by simpa using W⟩
  have f' : hs.toList.foldl (stepF m) (some (Array.replicate (m + 1) none, 0)) = some (owner, ([] ++ hs.toList).length) := f
  rw [layClean_eq, f'] <;> rfl
theorem relaid_all (t : SetTable) {hs : Array Int} {wanted M : Nat} (hw : SetTable.sizeAbove wanted - 1 = M) (g : Good M) (hn : hs.size ≤ M) :
    ∃ t' order, t.relaid hs wanted = some (t', order) ∧ order.toList.Perm (List.range hs.size) ∧ Tab t' (order.toList.map fun i => hs.getD i 0) ∧ t'.mask = M ∧ t'.led = t.led ∧ t'.plain = t.plain := by
  obtain ⟨owner, e, W⟩ := lay_all g hn
  have hr : t.relaid hs wanted = some (tabOf t M owner, ((liveOf M owner).map (·.2)).toArray) := by
    rw [relaid_eq, hw, e] <;> rfl
  have ris := ris_live (fun j => owner.getD j none) (List.range (M + 1)) (by
    unfold Ris
    exact List.pairwise_lt_range)
  have r1 : Ris ((liveOf M owner).map (·.1)) := ris.1
  have r2 : ∀ x ∈ (liveOf M owner).map (·.1), x ∈ List.range (M + 1) := ris.2
  have nd : ((liveOf M owner).map (·.1)).Nodup := List.Pairwise.imp (fun h => Nat.ne_of_lt h) r1
  have inL : ∀ {j k : Nat}, j ≤ M → oAt owner j = some k → (j, k) ∈ liveOf M owner := fun a b => (mem_live W.sz).2 ⟨a, b⟩
  have every : ∀ k, k < hs.size → k ∈ (liveOf M owner).map (·.2) := fun k hk => by
    obtain ⟨j, b1, b2⟩ := W.all k (by simpa using hk)
    exact List.mem_map.mpr ⟨(j, k), inL b1 b2, rfl⟩
  have hlen : (liveOf M owner).length = hs.size := by
    obtain ⟨ps, p1, p2⟩ := W.ps
    have a := nat_nodup_len ((liveOf M owner).map (·.1)) ps nd fun x hx => by
      obtain ⟨⟨y, k⟩, hq, rfl⟩ := List.mem_map.mp hx
      obtain ⟨b1, b2⟩ := (mem_live W.sz).1 hq
      exact p2 y b1 (by rw [b2]; intro z; cases z)
    have b := nat_nodup_len (List.range hs.size) ((liveOf M owner).map (·.2)) List.nodup_range fun k hk => every k (List.mem_range.mp hk)
    rw [List.length_map, p1] at a
    rw [List.length_map, List.length_range] at b
    have hz : hs.toList.length = hs.size := rfl
    omega
  refine ⟨tabOf t M owner, ((liveOf M owner).map (·.2)).toArray, hr, perm_range hs.size _ (by simpa using hlen) (by simpa using every), ⟨r1, rfl, ?_, g, fun x hx => Nat.le_of_lt_succ (List.mem_range.mp (r2 x hx)), fun i h j h1 h2 => ?_⟩, rfl, rfl, rfl⟩
  · show ((liveOf M owner).map (·.1)).length = (((liveOf M owner).map (·.2)).map fun i => hs.getD i 0).length
    simp
  · have h1' : (((liveOf M owner).map (·.2)).map fun i => hs.getD i 0)[i]? = some h := h1
    have h2' : ((liveOf M owner).map (·.1))[i]? = some j := h2
    rw [List.getElem?_map, List.getElem?_map] at h1'
    rw [List.getElem?_map] at h2'
    cases hq : (liveOf M owner)[i]? with
    | none =>
      rw [hq] at h2'
      cases h2'
    | some q =>
      obtain ⟨y, k⟩ := q
      rw [hq] at h1' h2'
      obtain rfl : y = j := Option.some.inj h2'
      obtain rfl : hs.getD k 0 = h := Option.some.inj h1'
      obtain ⟨b1, b2⟩ := (mem_live W.sz).1 (List.mem_of_getElem? hq)
      obtain ⟨h0, K, a1, a2, a3⟩ := W.at_ y k b1 b2
      have e0 : hs.getD k 0 = h0 := by
        rw [Array.getD_eq_getD_getElem?, ← Array.getElem?_toList, a1] <;> rfl
      rw [e0]
      refine ⟨K, a2, fun c hc => ?_⟩
      show way M h0 c ∈ (liveOf M owner).map (·.1)
      cases z : oAt owner (way M h0 c) with
      | none => exact absurd z (a3 c hc)
      | some k2 => exact List.mem_map.mpr ⟨(way M h0 c, k2), inL (way_in h0 c) z, rfl⟩
theorem size20 : SetTable.sizeAbove (SetTable.grown 5) = 32 := by decide +kernel
theorem size76 : SetTable.sizeAbove (SetTable.grown 19) = 128 := by decide +kernel
theorem size308 : SetTable.sizeAbove (SetTable.grown 77) = 512 := by decide +kernel
theorem size1228 : SetTable.sizeAbove (SetTable.grown 307) = 2048 := by decide +kernel
end DR

set_option Elab.async false
set_option linter.all false
set_option maxRecDepth 100000
set_option maxHeartbeats 4000000
namespace DR
open PySem PySem.Spec PyProof.Rows L2
/-- the n-th place of the way of h -/
abbrev stp (m : Nat) (h : Int) (c : Nat) : SetTable.Probe := nth m (runAt m (SetTable.bits h % (m + 1)) (SetTable.bits h)) c
theorem stp_add (m : Nat) (h : Int) (c q : Nat) : nth m (stp m h c) q = stp m h (c + q) := (nth_add m c _ q).symm
theorem nth_clean (m : Nat) : ∀ (n : Nat) (p : SetTable.Probe), p.dummy = none → (nth m p n).dummy = none
  | 0, _, h => h
  | n + 1, p, h => nth_clean m n _ (by unfold adv; split <;> exact h)
/-- a look from the c-th place on: a row of that hash ahead of the gap, or the gap -/
theorem look_from {t : SetTable} {hs : List Int} (T : Tab t hs) {h : Int} {K : Nat} (hKf : K < 10 * SetTable.turns t.mask) (hK : way t.mask h K ∉ t.place.toList) (hb : ∀ c, c < K → way t.mask h c ∈ t.place.toList)
    (hashAt : Nat → Int) {c : Nat} (hc : c ≤ K) :
    (∃ q i, c ≤ q ∧ q < K ∧ t.place.toList[i]? = some (way t.mask h q) ∧ hashAt i = h ∧ (∀ q' i', c ≤ q' → q' < q → t.place.toList[i']? = some (way t.mask h q') → hashAt i' ≠ h) ∧
      t.probe hashAt h (stp t.mask h c) = some (.candidate (way t.mask h q) i (stp t.mask h (q + 1)))) ∨
    ((∀ q' i', c ≤ q' → q' < K → t.place.toList[i']? = some (way t.mask h q') → hashAt i' ≠ h) ∧ t.probe hashAt h (stp t.mask h c) = some (.empty (way t.mask h K) none)) := by
  have sh : ∀ q, nth t.mask (stp t.mask h c) q = stp t.mask h (c + q) := stp_add t.mask h c
  have e1 : ∀ q, (nth t.mask (stp t.mask h c) q).j = way t.mask h (c + q) := fun q => congrArg SetTable.Probe.j (sh q)
  have eK : c + (K - c) = K := by omega
  have spec := go_spec t T.asc T.nod hashAt h (10 * SetTable.turns t.mask) (K - c) _ (nth_clean t.mask c _ rfl) (by omega)
    (fun q hq => by rw [sh]; exact hb (c + q) (by omega)) (by rw [sh, eK]; exact hK)
  rcases spec with ⟨q, i, hq, hi, hh, hno, hpr⟩ | ⟨hno, hpr⟩
  · refine .inl ⟨c + q, i, by omega, by omega, by rw [← e1]; exact hi, hh, fun q' i' h1 h2 hi' => ?_, ?_⟩
    · refine hno (q' - c) i' (by omega) ?_
      rw [e1, show c + (q' - c) = q' by omega]
      exact hi'
    · show SetTable.probe.go t hashAt h (10 * SetTable.turns t.mask) (stp t.mask h c) = _
      rw [show c + q + 1 = c + (q + 1) by omega, ← sh, ← e1]
      exact hpr
  · refine .inr ⟨fun q' i' h1 h2 hi' => ?_, ?_⟩
    · refine hno (q' - c) i' (by omega) ?_
      rw [e1, show c + (q' - c) = q' by omega]
      exact hi'
    · show SetTable.probe.go t hashAt h (10 * SetTable.turns t.mask) (stp t.mask h c) = _
      have e3 := e1 (K - c)
      rw [eK] at e3
      rw [← e3]
      exact hpr

section
variable {P : Program} {w : World} {A : Around} {E : Value → Shared → Prop} {s : Shared}
/-- the set at a holds the tuples L (where, what) -/
structure SetG (P : Program) (w : World) (h : Heap) (a : Addr) (L : List (Addr × List Int)) (es : Array (Int × Value)) (ep : Nat) (t : SetTable) : Prop where
  ob : ∃ o, h.get? a = some o ∧ o.ExactSet ∧ o.data = .set es ep t
  rows : es.toList = rowsOf P w L
  tab : Tab t (L.map fun p => thash P w p.2)
  nd : (L.map (·.2)).Nodup
  tup : ∀ p ∈ L, IsT P w h p.2 p.1
  plain : t.plain = true
  led : w.params.followText "set-order" = true ∨ t.led = true
  room : L.length * 5 < t.mask * 3
variable {a : Addr} {L : List (Addr × List Int)} {es : Array (Int × Value)} {ep : Nat} {t : SetTable}
theorem SetG.len (R : SetG P w s.heap a L es ep t) : es.size = L.length := by
  have h := congrArg List.length R.rows
  simpa [rowsOf] using h
theorem SetG.plen (R : SetG P w s.heap a L es ep t) : t.place.size = L.length := by
  have h := R.tab.long
  rw [List.length_map, Array.length_toList] at h
  exact h
theorem SetG.fit (R : SetG P w s.heap a L es ep t) : t.fits es.size = true := by
  have h2 := R.len
  have h3 := R.room
  have h4 := R.plen
  unfold SetTable.fits SetTable.fill
  rw [R.tab.nod, h2, h4]
  simp
  omega
theorem SetG.row (R : SetG P w s.heap a L es ep t) {i : Nat} {p : Addr × List Int} (h : L[i]? = some p) : es[i]? = some (thash P w p.2, Value.ref p.1) := by
  rw [← Array.getElem?_toList, R.rows]
  simp [rowsOf, h]
theorem SetG.stands (R : SetG P w s.heap a L es ep t) : ¬ t.gaveWay = true := by
  unfold SetTable.gaveWay
  rw [R.tab.good.odd]
  decide
/-- the search, adding or not -/
theorem seek_from (R : SetG P w s.heap a L es ep t) {x : Addr} {k : List Int} (hx : IsT P w s.heap k x) (hu : A.units < cLine) {K : Nat} (hKf : K < 10 * SetTable.turns t.mask)
    (hK : way t.mask (thash P w k) K ∉ t.place.toList) (hKb : ∀ c, c < K → way t.mask (thash P w k) c ∈ t.place.toList) {adding : Bool} {Q : SetFound → Shared → Prop}
    (hin : k ∈ L.map (·.2) → ∀ r : Option Nat, (adding = false → r.isSome = true) → Q (.there r) s) (hout : k ∉ L.map (·.2) → Q (.free (way t.mask (thash P w k) K) false) s) :
    ∀ (f c : Nat) (stand : Option SetTable.Probe), stand.getD (t.probeStart (thash P w k)) = stp t.mask (thash P w k) c → c ≤ K → K - c < f →
      (∀ (i : Nat) p, L[i]? = some p → p.2 = k → ∃ c', c ≤ c' ∧ c' < K ∧ t.place.toList[i]? = some (way t.mask (thash P w k) c')) →
      wpAny (model P w) A (setSearchFrom a (.ref x) (thash P w k) adding f stand) Q E s
  | 0, c, stand, _, _, hf, _ => absurd hf (Nat.not_lt_zero _)
  | f + 1, c, stand, hst, hc, hf, hre => by
    obtain ⟨o, ho, hex, hd⟩ := R.ob
    rw [setSearchFrom_succ]
    refine wpAny_bind (wpAny_setState_of ho hd R.fit ?_)
    dsimp only
    refine wp_if_neg R.stands ?_
    have hashAt : ∀ (i : Nat) p, L[i]? = some p → (es[i]?.map (·.1)).getD 0 = thash P w p.2 := fun i p hp => by
      rw [R.row hp] <;> rfl
    rcases look_from R.tab hKf hK hKb (fun i => (es[i]?.map (·.1)).getD 0) hc with ⟨q, i, q1, q2, hi, hh, hno, hpr⟩ | ⟨hno, hpr⟩
    · rw [hst, hpr]
      dsimp only
      have hil : i < L.length := by
        have h1 : i < t.place.toList.length := (List.getElem?_eq_some_iff.mp hi).1
        have h2 := R.plen
        rw [Array.length_toList] at h1
        omega
      obtain ⟨p, hp⟩ : ∃ p, L[i]? = some p := ⟨_, List.getElem?_eq_getElem hil⟩
      have hmem : p ∈ L := List.mem_of_getElem? hp
      have more : wpAny (model P w) A (searchRest a (.ref x) (thash P w k) adding f es t (way t.mask (thash P w k) q) i (stp t.mask (thash P w k) (q + 1))) Q E s := by
        unfold searchRest
        rw [R.row hp]
        dsimp only
        refine wpAny_bind (wpAny_holding (wpAny_eqBool_tuple hu (R.tup p hmem) hx ?_))
        refine wpAny_bind (wpAny_setState_of ho hd R.fit ?_)
        dsimp only
        have hsl : t.slot (way t.mask (thash P w k) q) = .live i := slot_live R.tab.asc hi
        by_cases hkk : p.2 = k
        · have isin : k ∈ L.map (·.2) := List.mem_map.mpr ⟨p, hmem, hkk⟩
          cases adding with
          | true =>
            refine wp_if_pos (by simp [hkk]) ?_
            exact wpAny_pure (hin isin none (fun z => nomatch z))
          | false =>
            refine wp_if_neg (by simp) ?_
            rw [sameMem]
            dsimp only
            simp only [if_true, hsl, R.row hp]
            refine wpAny_bind (wpAny_isSame_ref_self (wpAny_bind (wpAny_pure ?_)))
            simp only [if_true]
            refine wp_if_pos (by simp [hkk]) ?_
            exact wpAny_pure (hin isin (some i) fun _ => rfl)
        · refine wp_if_neg (by simp [hkk]) ?_
          rw [sameMem]
          dsimp only
          simp only [if_true, hsl, R.row hp]
          refine wpAny_bind (wpAny_isSame_ref_self (wpAny_bind (wpAny_pure ?_)))
          simp only [if_true]
          refine wp_if_neg (by simp [hkk]) ?_
          refine seek_from R hx hu hKf hK hKb hin hout f (q + 1) _ rfl (by omega) (by omega) fun i0 p0 h0 hk0 => ?_
          obtain ⟨c', a1, a2, a3⟩ := hre i0 p0 h0 hk0
          refine ⟨c', ?_, a2, a3⟩
          by_cases z : c' < q
          · exfalso
            refine hno c' i0 a1 z a3 ?_
            rw [hashAt i0 p0 h0, hk0]
          · by_cases y : c' = q
            · exfalso
              rw [y] at a3
              have s0 := slot_live R.tab.asc a3
              rw [hsl] at s0
              injection s0 with s0
              rw [← s0, hp] at h0
              exact hkk ((congrArg Prod.snd (Option.some.inj h0)).trans hk0)
            · omega
      by_cases hl : t.led = true
      · refine wp_if_neg (by simp [hl]) ?_
        exact more
      · refine wp_if_pos (by simp [hl]) ?_
        refine wpAny_bind (seen_tup hx (fun y hy => ?_) ?_)
        · obtain ⟨e, he, ee⟩ := List.mem_map.mp hy
          have he2 : e ∈ es.toList := by
            have he1 : e ∈ es ∧ e.1 = thash P w k := by simpa using he
            simpa using he1.1
          rw [R.rows] at he2
          obtain ⟨p2, hp2, e2⟩ := List.mem_map.mp he2
          exact ⟨p2.2, p2.1, by rw [← ee, ← e2], R.tup p2 hp2⟩
        · refine wp_if_neg (by decide) ?_
          exact more
    · rw [hst, hpr]
      dsimp only
      refine wpAny_pure (hout fun hm => ?_)
      obtain ⟨p0, h0, hk0⟩ := List.mem_map.mp hm
      obtain ⟨i0, h00⟩ := List.getElem?_of_mem h0
      obtain ⟨c', a1, a2, a3⟩ := hre i0 p0 h00 hk0
      refine hno c' i0 a1 a2 a3 ?_
      rw [hashAt i0 p0 h00, hk0]
theorem seek (R : SetG P w s.heap a L es ep t) {x : Addr} {k : List Int} (hx : IsT P w s.heap k x) (hu : A.units < cLine) {adding : Bool} {Q : SetFound → Shared → Prop}
    (hin : k ∈ L.map (·.2) → ∀ r : Option Nat, (adding = false → r.isSome = true) → Q (.there r) s)
    (hout : ∀ K, k ∉ L.map (·.2) → way t.mask (thash P w k) K ∉ t.place.toList → (∀ c, c < K → way t.mask (thash P w k) c ∈ t.place.toList) → Q (.free (way t.mask (thash P w k) K) false) s) :
    wpAny (model P w) A (setSearch a (.ref x) (thash P w k) adding) Q E s := by
  have hroom := R.room
  have hpl := R.plen
  obtain ⟨K, hKf, hK, hKb⟩ := R.tab.gap (by rw [List.length_map]; omega) (thash P w k)
  have hbig : K < 100000 := by
    have h1 : 10 * SetTable.turns t.mask = 10 * (t.mask + 15) := rfl
    have h2 := R.tab.good.big
    omega
  unfold setSearch
  refine seek_from R hx hu hKf hK hKb hin (fun hn => hout K hn hK hKb) 100000 0 none rfl (Nat.zero_le _) (by omega) fun i p hp hk => ?_
  have hi : (L.map fun p => thash P w p.2)[i]? = some (thash P w k) := by simp [hp, hk]
  have hil : i < t.place.toList.length := by
    have h1 : i < L.length := (List.getElem?_eq_some_iff.mp hp).1
    rw [Array.length_toList]
    omega
  have hj := List.getElem?_eq_getElem hil
  obtain ⟨c, hc, e⟩ := R.tab.ahead hK hi hj
  exact ⟨c, Nat.zero_le _, hc, by rw [hj, e]⟩
/-- x in the set -/
theorem contains_at (R : SetG P w s.heap a L es ep t) {x : Addr} {k : List Int} (hx : IsT P w s.heap k x) (hu : A.units < cLine) {Q : Bool → Shared → Prop}
    (hQ : Q (decide (k ∈ L.map (·.2))) { s with toks := s.toks + (k.length + 1) }) : wpAny (model P w) A (setContains a (.ref x)) Q E s := by
  unfold setContains
  refine wpAny_holding ?_
  refine wpAny_bind (wpAny_pyHash_tuple hu hx ?_)
  obtain ⟨o, ho, hex, hd⟩ := R.ob
  have R' : SetG P w ({ s with toks := s.toks + (k.length + 1) } : Shared).heap a L es ep t := R
  refine wpAny_bind ?_
  unfold setFind
  rw [show (100000 : Nat) = 99999 + 1 from rfl]
  unfold setFindIn
  refine wpAny_bind (wpAny_setState_of (s := { s with toks := s.toks + (k.length + 1) }) ho hd R.fit ?_)
  dsimp only
  refine wp_if_neg (by simp [byScan, Value.scannable]) ?_
  refine wpAny_bind (seek R' hx hu (fun hm r hr => ?_) fun K hm _ _ => ?_)
  · dsimp only
    refine wpAny_pure (wpAny_pure ?_)
    rw [hr rfl]
    rw [decide_eq_true hm] at hQ
    exact hQ
  · dsimp only
    refine wpAny_pure (wpAny_pure ?_)
    rw [decide_eq_false hm] at hQ
    exact hQ
end
end DR

set_option Elab.async false
set_option linter.all false
set_option maxRecDepth 100000
set_option maxHeartbeats 4000000
namespace DR
open PySem PySem.Spec PyProof.Rows L2
section
variable {P : Program} {w : World} {A : Around} {E : Value → Shared → Prop} {s : Shared}
variable {a : Addr} {L : List (Addr × List Int)} {es : Array (Int × Value)} {ep : Nat} {t : SetTable}
/-- the table laid anew, larger -/
theorem relay_all {o : Obj} (ho : s.heap.get? a = some o) (hex : o.ExactSet) (hd : o.data = .set es ep t) (hrows : es.toList = rowsOf P w L) (hT : Tab t (L.map fun p => thash P w p.2)) (hfl : L.length ≤ t.mask)
    (nd : (L.map (·.2)).Nodup) (tup : ∀ p ∈ L, IsT P w s.heap p.2 p.1) (pl : t.plain = true) (ld : w.params.followText "set-order" = true ∨ t.led = true) {wanted M : Nat}
    (hw : SetTable.sizeAbove wanted - 1 = M) (g : Good M) (hw2 : SetTable.sizeAbove wanted ≤ 2048) (hn : L.length * 5 < M * 3) {Q : Unit → Shared → Prop}
    (hQ : ∀ h' L' es' ep' t', Heap.SameBut a s.heap h' → SetG P w h' a L' es' ep' t' → L'.Perm L → Q () { s with heap := h' }) : wpAny (model P w) A (setRelay a wanted) Q E s := by
  have hsl : es.size = L.length := by simpa [rowsOf] using congrArg List.length hrows
  have hpl : t.place.size = L.length := by
    have h := hT.long
    rw [List.length_map, Array.length_toList] at h
    exact h
  have hfits : t.fits es.size = true := by
    unfold SetTable.fits SetTable.fill
    rw [hT.nod, hsl, hpl]
    simp
    omega
  have hg := g.big
  obtain ⟨t', order, e, hp, T, em, el, epl⟩ := relaid_all t (hs := es.map (·.1)) hw g (by rw [Array.size_map, hsl]; omega)
  rw [Array.size_map, hsl] at hp
  obtain ⟨L2, r1, r2, r3⟩ := order_rows L es order hrows hp
  rw [← r3] at T
  have hs2 : (order.filterMap (es[·]?)).size = L.length := by
    have h := congrArg List.length r1
    rw [Array.length_toList] at h
    rw [h]
    simp [rowsOf, r2.length_eq]
  rw [setRelay_eq]
  refine wpAny_bind (wpAny_setState_of ho hd hfits ?_)
  dsimp only
  refine wp_if_neg (by rw [sizeLine_eq]; omega) ?_
  rw [e]
  dsimp only
  refine wpAny_bind ?_
  refine wp_if_neg (by rw [hs2, hsl]; simp) ?_
  refine wpAny_pure ?_
  dsimp only
  refine wpAny_storeSet_of ho hd ?_ (by rw [hs2, sizeLine_eq]; omega)
  have sb := Heap.SameBut.update s.heap a (Obj.putSet (order.filterMap (es[·]?)) t')
  refine hQ _ L2 (order.filterMap (es[·]?)) (ep + 1) t' sb ⟨⟨_, store_at ho hd, ⟨hex.1, hex.2.1, hex.2.2⟩, rfl⟩, r1, T, (r2.map (·.2)).nodup_iff.mpr nd, fun p hpm => isT_same (tup p (r2.mem_iff.mp hpm)) ho hd sb, by rw [epl]; exact pl, by rw [el]; exact ld, ?_⟩ r2
  rw [r2.length_eq, em]
  exact hn
/-- one more, or the same -/
theorem add_all (R : SetG P w s.heap a L es ep t) {x : Addr} {k : List Int} (hx : IsT P w s.heap k x) (hu : A.units < cLine) (hfew : L.length < 1000) {Q : Bool → Shared → Prop}
    (hQ : ∀ b h' L' es' ep' t', Heap.SameBut a s.heap h' → SetG P w h' a L' es' ep' t' → (k ∈ L.map (·.2) → L' = L) → (k ∉ L.map (·.2) → L'.Perm ((x, k) :: L)) → Q b { s with heap := h' }) :
    wpAny (model P w) A (setAddHashed a (.ref x) (thash P w k)) Q E s := by
  obtain ⟨o, ho, hex, hd⟩ := R.ob
  have hsl := R.len
  have hroom := R.room
  have hbig := R.tab.good.big
  unfold setAddHashed
  refine wpAny_holding ?_
  rw [show (100000 : Nat) = 99999 + 1 from rfl, setAddHashedIn_succ]
  refine wpAny_bind (wpAny_setState_of ho hd R.fit ?_)
  dsimp only
  refine wp_if_neg (by simp [byScan, Value.scannable]) ?_
  refine wpAny_bind (seek R hx hu (fun hm r _ => ?_) fun K hm hK hb => ?_)
  · dsimp only
    exact wpAny_pure (hQ false s.heap L es ep t (Heap.SameBut.refl a s.heap) R (fun _ => rfl) fun z => absurd hm z)
  · dsimp only
    refine wpAny_bind (wpAny_setState_of ho hd R.fit ?_)
    dsimp only
    obtain ⟨q1, q2⟩ := R.tab.put hK hb
    have q9 : (t.put (way t.mask (thash P w k) K)).1.fill = L.length + 1 := by
      have h := q2.long
      rw [Array.length_toList, len_ins _ q1, List.length_map] at h
      unfold SetTable.fill
      rw [h, q2.nod] <;> rfl
    have hp1 : (t.put (way t.mask (thash P w k) K)).1.plain = true := R.plain
    have hl1 : w.params.followText "set-order" = true ∨ (t.put (way t.mask (thash P w k) K)).1.led = true := R.led
    have hm1 : (t.put (way t.mask (thash P w k) K)).1.mask = t.mask := rfl
    have hq1 : (t.put (way t.mask (thash P w k) K)).2 = SetTable.below t.place (way t.mask (thash P w k) K) := rfl
    generalize t.put (way t.mask (thash P w k) K) = pt at q2 q9 hp1 hl1 hm1 hq1 ⊢
    obtain ⟨t1, p⟩ := pt
    dsimp only at q2 q9 hp1 hl1 hm1 hq1 ⊢
    subst hq1
    first
      | (refine wpAny_bind ?_; refine wp_if_pos hp1 ?_; refine hashBy_tup hx ?_)
      | refine wp_if_pos hp1 (wpAny_bind (hashBy_tup hx ?_))
    simp only [if_true]
    generalize SetTable.below t.place (way t.mask (thash P w k) K) = p at q1 q2 ⊢
    have pm := put_perm L p (x, k)
    have hin : (SetTable.insertAt es p (thash P w k, Value.ref x)).toList = rowsOf P w (L.take p ++ (x, k) :: L.drop p) := by
      rw [SetTable.toList_insertAt, rows_put, R.rows]
    rw [← List.map_take, ← List.map_drop, ← List.map_cons (f := fun p : Addr × List Int => thash P w p.2) (a := (x, k)), ← List.map_append] at q2
    generalize SetTable.insertAt es p (thash P w k, Value.ref x) = es1 at hin ⊢
    generalize L.take p ++ (x, k) :: L.drop p = L1 at pm q2 hin
    have hlen : L1.length = L.length + 1 := pm.length_eq
    have nd1 : (L1.map (·.2)).Nodup := by
      refine (pm.map (·.2)).nodup_iff.mpr ?_
      rw [List.map_cons]
      exact List.nodup_cons.mpr ⟨hm, R.nd⟩
    have hes : es1.size = L.length + 1 := by
      have h := congrArg List.length hin
      simpa [rowsOf, hlen] using h
    refine wpAny_bind (wpAny_storeSet_of ho hd ?_ (by rw [hes, sizeLine_eq]; omega))
    have sb := Heap.SameBut.update s.heap a (Obj.putSet es1 t1)
    have ho1 := store_at (es' := es1) (t' := t1) ho hd
    generalize s.heap.update a (Obj.putSet es1 t1) = h1 at sb ho1 ⊢
    have tup1 : ∀ p ∈ L1, IsT P w h1 p.2 p.1 := fun p hp => by
      rcases List.mem_cons.mp (pm.mem_iff.mp hp) with e | hp
      · subst e
        exact isT_same hx ho hd sb
      · exact isT_same (R.tup p hp) ho hd sb
    by_cases hf : t1.tooFull = true
    · first
        | (refine wpAny_bind ?_; refine wp_if_pos (by simp [hf]) ?_)
        | (refine wp_if_pos (by simp [hf]) ?_; refine wpAny_bind ?_)
      have hfull : (L.length + 1) * 5 ≥ t.mask * 3 := by
        have h := hf
        unfold SetTable.tooFull at h
        rw [decide_eq_true_eq, q9, hm1] at h
        exact h
      rw [hsl]
      have go : ∀ M, SetTable.sizeAbove (SetTable.grown (L.length + 1)) - 1 = M → Good M → SetTable.sizeAbove (SetTable.grown (L.length + 1)) ≤ 2048 → (L.length + 1) * 5 < M * 3 → L.length + 1 ≤ t.mask →
          wpAny (model P w) A (setRelay a (SetTable.grown (L.length + 1))) (fun _ s' => wpAny (model P w) A (pure true) Q E s') E { s with heap := h1 } := fun M g1 g2 g3 g4 g5 => by
        refine relay_all (s := { s with heap := h1 }) ho1 ⟨hex.1, hex.2.1, hex.2.2⟩ rfl hin q2 (by rw [hlen, hm1]; exact g5) nd1 tup1 hp1 hl1 g1 g2 g3 (by rw [hlen]; exact g4) ?_
        intro h2 L2 es2 ep2 t2 sb2 R2 pm2
        exact wpAny_pure (hQ true h2 L2 es2 ep2 t2 (sb.trans sb2) R2 (fun z => absurd z hm) fun _ => pm2.trans pm)
      have hc : t.mask = 7 ∨ t.mask = 31 ∨ t.mask = 127 ∨ t.mask = 511 ∨ t.mask = 2047 := R.tab.good.five
      rcases hc with c | c | c | c | c
      · have e2 : L.length = 4 := by omega
        exact go 31 (by rw [e2, size20]) good31 (by rw [e2, size20]; decide) (by omega) (by omega)
      · have e2 : L.length = 18 := by omega
        exact go 127 (by rw [e2, size76]) good127 (by rw [e2, size76]; decide) (by omega) (by omega)
      · have e2 : L.length = 76 := by omega
        exact go 511 (by rw [e2, size308]) good511 (by rw [e2, size308]; decide) (by omega) (by omega)
      · have e2 : L.length = 306 := by omega
        exact go 2047 (by rw [e2, size1228]) good2047 (by rw [e2, size1228]; decide) (by omega) (by omega)
      · omega
    · first
        | refine wp_if_neg (by simp [hf]) ?_
        | (refine wpAny_bind ?_; refine wp_if_neg (by simp [hf]) ?_; refine wpAny_pure ?_)
      refine wpAny_pure (hQ true h1 L1 es1 (ep + 1) t1 sb ⟨⟨_, ho1, ⟨hex.1, hex.2.1, hex.2.2⟩, rfl⟩, hin, q2, nd1, tup1, hp1, hl1, ?_⟩ (fun z => absurd z hm) fun _ => pm)
      have h := hf
      unfold SetTable.tooFull at h
      rw [decide_eq_true_eq, q9] at h
      rw [hlen]
      omega
end
end DR

set_option Elab.async false
set_option linter.all false
set_option maxRecDepth 100000
set_option maxHeartbeats 4000000
namespace DR
open PySem PySem.Spec PyProof.Rows L2
/-- a set of tuples of ints, by its own object alone -/
structure SetG0 (P : Program) (w : World) (h : Heap) (a : Addr) (L : List (Addr × List Int)) : Prop where
  ex : ∃ es ep t, (∃ o, h.get? a = some o ∧ o.ExactSet ∧ o.data = .set es ep t) ∧ es.toList = rowsOf P w L ∧ Tab t (L.map fun p => thash P w p.2) ∧ (L.map (·.2)).Nodup ∧ t.plain = true ∧
    (w.params.followText "set-order" = true ∨ t.led = true) ∧ L.length * 5 < t.mask * 3
def SetGO (P : Program) (w : World) (a : Addr) (L : List (Addr × List Int)) : HO := .ext fun h => SetG0 P w h a L
section
variable {P : Program} {w : World} {H : Hp} {h : Heap} {a : Addr} {L : List (Addr × List Int)} {es : Array (Int × Value)} {ep : Nat} {t : SetTable}
theorem SetG.bare (R : SetG P w h a L es ep t) : SetG0 P w h a L := ⟨es, ep, t, R.ob, R.rows, R.tab, R.nd, R.plain, R.led, R.room⟩
theorem SetG0.full (R : SetG0 P w h a L) (ht : ∀ p ∈ L, IsT P w h p.2 p.1) : ∃ es ep t, SetG P w h a L es ep t := by
  obtain ⟨es, ep, t, h1, h2, h3, h4, h5, h6, h7⟩ := R.ex
  exact ⟨es, ep, t, h1, h2, h3, h4, ht, h5, h6, h7⟩
theorem setGO_ok (R : SetG0 P w h a L) : ObjOk P w H h a (SetGO P w a L) := by
  have ⟨es, ep, t, ⟨o, ho, r⟩, q⟩ := R.ex
  refine ⟨R, ⟨o, ho⟩, fun h1 h2 p k => ?_⟩
  have ⟨es', ep', t', ⟨o', ho', r'⟩, q'⟩ := SetG0.ex p
  exact ⟨es', ep', t', ⟨o', k o' ho', r'⟩, q'⟩
theorem setG_fresh (ho : h.get? a = some { cls := .type "set", dict := none, data := .set #[] 0 (.fresh 0 0 (!w.params.followText "set-order")) }) : SetG0 P w h a [] := by
  refine ⟨#[], 0, _, ⟨_, ho, ⟨rfl, rfl, rfl⟩, rfl⟩, rfl, ⟨List.Pairwise.nil, rfl, rfl, good7, fun x hx => (by cases hx), fun i h j hi => (by simp at hi)⟩, List.nodup_nil, rfl, ?_, (by show 0 * 5 < 7 * 3; decide)⟩
  show _ ∨ (!w.params.followText "set-order") = true
  cases w.params.followText "set-order"
  · exact .inr rfl
  · exact .inl rfl
end
section
variable {X : Cx}
theorem setG_at {pins : List (Addr × Obj)} {σ : L2.St} {H : Hp} {s : Shared} {a : Addr} {L : List (Addr × List Int)} (I : Inv X pins σ H s) (ha : H a = some (SetGO X.prog X.w a L)) (hk : ∀ p ∈ L, SqT X.K H p.1 (p.2.map V.int)) :
    ∃ es ep t, SetG X.prog X.w s.heap a L es ep t := by
  have R0 : SetG0 X.prog X.w s.heap a L := (I.hok a _ ha).1
  exact R0.full fun p hp => I.isT (hk p hp)
/-- set() -/
def rSetNew (P : Program) (w : World) : List V → Hp → VK → Prop := fun xs H Q => xs = [] ∧ ∀ p, H p = none → Q (.ref p) (upd H p (SetGO P w p []))
theorem cr_setNew : CallR X (.type "set") (rSetNew X.prog X.w) := by
  intro pins s σ H xs us Q I r h
  obtain ⟨rfl, q⟩ := h
  cases r
  refine setR_new fun _ => ?_
  exact ⟨.ref _, upd H s.heap.objs.size (SetGO X.prog X.w s.heap.objs.size []), I.laid (t' := s.toks) (fun b u e => Heap.get?_push_of_some _ e) (Nat.le_refl _) (setGO_ok (setG_fresh (Heap.get?_push_size _ rfl))), rfl, q _ (I.hok.fresh (Nat.le_refl _))⟩
/-- found.add(k) -/
def tGAdd (K : PySem.W.Frag) (P : Program) (w : World) (to : TE) (t : TA) : TE := fun σ H Q => to σ H fun x H1 => ∃ (a : Addr) (L : List (Addr × List Int)), x = V.ref a ∧ H1 a = some (SetGO P w a L) ∧ t σ H1 fun xs H2 =>
  ∃ (b : Addr) (k : List Int), xs = [V.ref b] ∧ H2 a = some (SetGO P w a L) ∧ (∀ p ∈ L, SqT K H2 p.1 (p.2.map V.int)) ∧ SqT K H2 b (k.map V.int) ∧ L.length < 1000 ∧
    ∀ L', (k ∈ L.map (·.2) → L' = L) → (k ∉ L.map (·.2) → L'.Perm ((b, k) :: L)) → Q .non (upd H2 a (SetGO P w a L'))
variable {o e : Expr} {to : TE} {t : TA} {apos cpos : Pos}
theorem set_add_G {A : Around} {E : Value → Shared → Prop} {pins : List (Addr × Obj)} {σ : L2.St} {H : Hp} {s : Shared} {a b : Addr} {L : List (Addr × List Int)} {k : List Int} {Q : Value → Shared → Prop} (hu : A.units + 1 < cLine) (I : Inv X pins σ H s)
    (ha : H a = some (SetGO X.prog X.w a L)) (hk : ∀ p ∈ L, SqT X.K H p.1 (p.2.map V.int)) (hb : SqT X.K H b (k.map V.int)) (few : L.length < 1000)
    (h : ∀ L' s', (k ∈ L.map (·.2) → L' = L) → (k ∉ L.map (·.2) → L'.Perm ((b, k) :: L)) → Inv X pins σ (upd H a (SetGO X.prog X.w a L')) s' → Q .none s') : wpAny (model X.prog X.w) A (call (.builtin "set.add") [.ref a, .ref b]) Q E s := by
  obtain ⟨es, ep, tt, R⟩ := setG_at I ha hk
  have hx : IsT X.prog X.w s.heap k b := I.isT hb
  obtain ⟨os, hos, hex, hds⟩ := id R.ob
  have hT : s.TypeIs (.ref a) "set" := ⟨os, hos, hex.1⟩
  refine wpAny_call_entry F.slot_set_add hT F.entry_set_add ?_ (F.args_set_add_2 _ _)
  unfold Builtin.«set.add» Builtin.Frozenset.oneOther
  simp only [List.isEmpty_nil, bind_assoc]
  unfold Builtin.Frozenset.addrOf setAdd
  refine wpAny_bind (wpAny_pure ?_)
  try dsimp only
  refine wpAny_bind (wpAny_pure ?_)
  try dsimp only
  refine wpAny_bind ?_
  refine wpAny_holding ?_
  refine wpAny_bind (wpAny_pyHash_tuple (by show A.units + 1 < cLine; exact hu) hx ?_)
  refine add_all (s := { s with toks := s.toks + (k.length + 1) }) R hx (by show A.units + 1 < cLine; exact hu) few fun b' h' L' es' ep' t' hsb R' c1 c2 => ?_
  show wpAny _ _ (ret Value.none) _ _ _
  refine wpAny_pure ⟨_, rfl, h L' _ c1 c2 (I.write (e := a) (t' := s.toks + (k.length + 1)) (by rw [ha]; trivial) (.inl rfl) (fun c u hc hu' => (hsb.2 c hc).trans hu') ?_ (setGO_ok R'.bare))⟩
  obtain ⟨o', ho', _⟩ := R'.ob
  exact ⟨o', ho'⟩
theorem pe_gadd (hu : X.A.units + 2 < cLine) (ho : PE X o to) (ha : PA X [e] t)
    (hbase : attributeBase o "add" X.env (eval o X.env) = eval o X.env := by rfl)
    (hfew : ((backTo cpos (starEach [e] X.env)).all (fun x => !x.1) && (backToKw cpos (keywordEach [] X.env)).all (fun x => x.1.isSome)
      && decide ([e].length + ([] : List Keyword).length + (if ([] : List Keyword).isEmpty then 0 else 1) < 30)) = true := by rfl)
    (hline : (apos.endLine == cpos.line) = true := by rfl) (hse : starEach [e] X.env = [(false, eval e X.env)] := by rfl) :
    PE X (.Call (.Attribute o "add" apos) [e] [] cpos) (tGAdd X.K X.prog X.w to t) := by
  refine ⟨fun pins s σ H Q I h => ?_⟩
  refine wpAny_Call_method_late hbase hfew hline rfl (thn (ho.run pins s σ H _ I h) fun v s1 ⟨x, H1, I1, r1, a, L, ex, eH, q1⟩ => ?_)
  subst ex
  obtain rfl : v = Value.ref a := r1
  have R0 : SetG0 X.prog X.w s1.heap a L := (I1.hok a _ eH).1
  obtain ⟨es, ep, tt, ⟨ob, hob, hex, hds⟩, _⟩ := R0.ex
  refine ⟨"set", "set.add", F.plainAttrs_set, F.slot_set_add, F.type_set_add, ⟨ob, hob, hex.1⟩, fun b eb => ?_, ?_⟩
  · injection eb with eb
    subst eb
    exact ⟨ob, hob, hex.2.1⟩
  have hA := ha.run cpos pins s1 σ H1 _ I1 q1
  rw [hse] at hA ⊢
  refine Calls.callWith_builtin rfl (Calls.evalArgs_plain ?_)
  refine thn hA fun us s2 ⟨vs, H2, I2, r2, b, k, ev, ea, hk, hb, few, q2⟩ => ?_
  subst ev
  cases r2 with
  | cons rb rn =>
    cases rn
    obtain rfl := (show _ = Value.ref b from rb)
    exact set_add_G (by omega) I2 ea hk hb few fun L' s' c1 c2 I3 => ⟨.non, _, I3, rfl, q2 L' c1 c2⟩
/-- k in found -/
def rGIn (K : PySem.W.Frag) (P : Program) (w : World) : R2 := fun x y H Q => ∃ (b a : Addr) (k : List Int) (L : List (Addr × List Int)), x = V.ref b ∧ y = V.ref a ∧ H a = some (SetGO P w a L) ∧ (∀ p ∈ L, SqT K H p.1 (p.2.map V.int)) ∧ SqT K H b (k.map V.int) ∧
  Q (.bl (decide (k ∈ L.map (·.2)))) H
theorem or_gin (hu : X.A.units + 1 < cLine) : OpR X (compareOp .In) (rGIn X.K X.prog X.w) := by
  intro pins s σ H x y v u Q I rx ry h
  obtain ⟨b, a, k, L, rfl, rfl, ha, hk, hb, q⟩ := h
  cases rx
  cases ry
  obtain ⟨es, ep, tt, R⟩ := setG_at I ha hk
  have hx : IsT X.prog X.w s.heap k b := I.isT hb
  obtain ⟨os, hos, hex, hds⟩ := id R.ob
  have hT : s.TypeIs (.ref a) "set" := ⟨os, hos, hex.1⟩
  show wpAny _ _ (contains (.ref a) (.ref b) >>= fun r => pure (Value.bool r)) _ _ s
  refine wpAny_bind ?_
  unfold contains
  try with_reducible refine wpAny_holding ?_
  refine wpAny_bind (wpAny_specialOf hT F.slot_set_contains.lookup ?_)
  show wpAny _ _ (if (some (Value.builtin "set.__contains__") == some Value.none) = true then _ else _) _ _ s
  rw [if_neg (by rw [beq_builtin_none]; exact Bool.false_ne_true)]
  refine wpAny_bind (wpAny_callSpecialUnlessNone?_slot (name := Str.ofString "__contains__") hT F.slot_set_contains
    (wpAny_call_entry F.slot_set_contains hT entry_set_contains ?_ (F.args_set_contains_2 _ _)))
  unfold Builtin.«frozenset.__contains__» Builtin.Frozenset.oneOther
  simp only [List.isEmpty_nil, bind_assoc]
  unfold Builtin.Frozenset.addrOf Builtin.Frozenset.withSetAsKey
  refine wpAny_bind (wpAny_pure ?_)
  try dsimp only
  refine wpAny_bind (wpAny_pure ?_)
  try dsimp only
  refine wpAny_bind (wpAny_tryCatch ?_)
  refine contains_at R hx (by show X.A.units + 1 < cLine; exact hu) ?_
  show wpAny _ _ (ret (Value.bool (decide (k ∈ L.map (·.2))))) _ _ _
  exact wpAny_pure ⟨_, rfl, wpAny_truthy_bool (wpAny_pure ⟨.bl _, H, I.tok _, rfl, q⟩)⟩
end
end DR

set_option Elab.async false
set_option linter.all false
set_option maxRecDepth 100000
set_option maxHeartbeats 4000000
/-! Dict comprehensions whose keys may be tuples. -/
namespace DR
open PySem PySem.Spec PyProof.Rows L2
section
variable {X : Cx}
/-- an entry put into a dict, as a comprehension puts it -/
theorem put_entry {A : Around} {E : Value → Shared → Prop} {pins : List (Addr × Obj)} {σ : L2.St} {H H' : Hp} {s : Shared} {a : Addr} {y v : V} {u r : Value} {Q : Unit → Shared → Prop} (hu : A.units < cLine) (I : Inv X pins σ H s) (g : DPut H a y v H') (ry : RelV y u) (rv : RelV v r)
    (h : ∀ s', Inv X pins σ H' s' → Q () s') : wpAny (model X.prog X.w) A (dictSet a u r) Q E s := by
  rcases g with ⟨kvs, k, e, ey, l, eH⟩ | ⟨kvs, k, b, e, ey, eb, l, eH⟩
  · subst ey eH
    obtain ⟨z, hd, vs, rel, dd⟩ := dk_of I.hok e
    have many := length_putK kvs k v
    refine wpAny_dictSet_pairs (hsz := by rw [← rel.length]; exact z) (kV_is ry) dd fun h' d2 hs => h _ ?_
    obtain ⟨q, es2, ep2, hq, more⟩ := id d2
    exact d_write I (by rw [e]; exact True.intro) hs ⟨q, hq⟩ (dk_new (by omega) hd (rel.put k rv) d2)
  · subst ey eH
    obtain rfl := (show u = Value.ref b from ry)
    obtain ⟨z, hd, xs, rel, dd⟩ := dt_of I.hok e
    have many := length_putK kvs k v
    refine wpAny_dictSet_heap (hsz := by rw [← Paired.length rel]; exact z) (show A.units < cLine from hu) (key_of I.hok eb) dd fun h' d2 hs => h _ ?_
    obtain ⟨q, es, ep, hq, h2, h3, h4, _, h5⟩ := d2
    refine d_write I (by rw [e]; exact True.intro) hs ⟨q, hq⟩ ⟨by omega, hd, _, (rel.put k eb rv).keeps fun c ys ec => ?_, q, es, ep, hq, h2, h3, h4, h5⟩
    rw [upd_ne (ne_of ec e (fun z => nomatch z))]
    exact ec
/-- an empty dict of either make -/
def Bare (e0 : HO) : Prop := e0 = .dK [] ∨ e0 = .dT []
theorem Bare.ok {P : Program} {w : World} {H : Hp} {e0 : HO} (b : Bare e0) (h : Heap) (hb : sysModules < h.objs.size) : ObjOk P w H (h.push { cls := .type "dict", data := .dict #[] }) h.objs.size e0 := by
  rcases b with e | e <;> subst e
  · exact dk_empty h hb
  · exact dt_empty h hb
/-- {k: v for target in iter if ..}: D the new dict, empty as e0 says -/
def tDg (e0 : HO) (wi : TI) (g : TG) (tt : TT) (tk tv : TE) (vs : List Nat) : TE := fun σ H Q => wi σ H fun J H1 => ∀ D, H1 D = none → ∃ W : Nat → Nat → Hp → Prop, (∃ m, W 0 m (upd H1 D e0)) ∧ ∀ i m H, W i m H →
  (J.stop i H ∧ Q (.ref D) H) ∨ (J.go i H ∧ ∃ Nx : Hp → Prop, (∀ H', Nx H' → ∃ m', m' < m ∧ W (i + 1) m' H') ∧ ∀ x H', J.yld i H x H' → g x (wipe σ vs) H' fun σ2 H2 => wipe σ2 vs = wipe σ vs ∧ tt σ2 H2 fun b H3 =>
    if b = true then tk σ2 H3 fun y H4 => tv σ2 H4 fun z H5 => ∃ H6, DPut H5 D y z H6 ∧ Nx H6 else Nx H3)
theorem dg_core {e0 : HO} (be : Bare e0) {pins : List (Addr × Obj)} {s : Shared} {σ : L2.St} {H : Hp} {Q : VK} {kx vx tg iter : Expr} {ifs : List Expr} {scope : Scope} {own : List (Str × Nat)} {pos pos' : Pos} {wi : TI} {g : TG} {tt : TT} {tk tv : TE} {use : Option (Value → Sem Unit)} {Qf : Value → Shared → Prop}
    (hu : X.A.units < cLine) (hc : X.calm = true) (hN : X.N.Nodup) (I : Inv X pins σ H s) (hi : PI X tg iter wi) (ok : BlkOk X.N X.env.scope scope own)
    (hg : ∀ s H C cl fp, PG (X.blk s H scope (compEnvC scope cl C X.env) fp) tg g) (ht : ∀ s H C cl fp, PTs (X.blk s H scope (compEnvC scope cl C X.env) fp) ifs tt)
    (hk : ∀ s H C cl fp, PE (X.blk s H scope (compEnvC scope cl C X.env) fp) kx tk) (he : ∀ s H C cl fp, PE (X.blk s H scope (compEnvC scope cl C X.env) fp) vx tv)
    (hs : ∀ x, foldedSetIterable iter X.env x = pure x) (h : tDg e0 wi g tt tk tv (own.map (·.2)) σ H Q)
    (last : ∀ D C s' m H', Inv X pins σ H' s' → Q (.ref D) H' → s'.heap.Ns C m → FpOk X pins H' C → compPost (model X.prog X.w) X.A X.xe use Qf (.ref D) C (.ok .next) s') :
    wpAny (model X.prog X.w) X.A (comprehension (.DictComp kx vx [⟨tg, iter, ifs, 0⟩] scope pos) scope X.env pos' newDict false (eval iter X.env) use) Qf X.xe s := by
  have cells : ∀ y ∈ scope.names, y.2 = .free → ∃ c, X.env.cells.lookup y.1 = some c := fun y hy e => I.ok.has _ (ok.free y hy e)
  refine wpAny_comprehension_free (use := use) rfl hs (closure_ok cells) ok.kind (fun y hy e => by rw [ok.uniq y hy, e])
    (thn (hi.run pins s σ H _ I h) fun xv s1 hx => thn hx fun itv s2 h2 => ?_)
  obtain ⟨it, fp, tn, J, H2, e, I2, T, st2, f2, q⟩ := h2
  subst e
  refine wpAny_newObj_type (newEnv_comp ?_)
  obtain ⟨D, hD⟩ : ∃ D, s2.heap.objs.size = D := ⟨_, rfl⟩
  obtain ⟨W, ⟨m0, w0⟩, turn⟩ := q D (I2.hok.fresh (Nat.le_of_eq hD))
  obtain ⟨s3, hs3⟩ : ∃ s3 : Shared, { s2 with heap := s2.heap.push { cls := .type "dict", data := .dict #[] } } = s3 := ⟨_, rfl⟩
  have h3 : s3.heap = s2.heap.push { cls := .type "dict", data := .dict #[] } := by rw [← hs3]
  have I3 : Inv X pins σ (upd H2 D e0) s3 := by
    subst hs3
    refine I2.laid (t' := s2.toks) (fun b o e => Heap.get?_push_of_some _ e) (Nat.le_of_eq hD) ?_
    subst hD
    exact be.ok s2.heap I2.big
  have f3 : ∀ b ∈ fp, FpOk X pins (upd H2 D e0) b ∧ b < s3.heap.objs.size := fun b hb => by
    obtain ⟨o, eo, _⟩ := T.obj _ _ st2 b hb
    have hlt := Heap.lt_size eo
    have nD : b ≠ D := by
      rw [← hD]
      exact Nat.ne_of_lt hlt
    refine ⟨⟨(upd_ne nD).trans (f2 b hb).1, (f2 b hb).2⟩, ?_⟩
    rw [h3, Heap.size_push]
    exact Nat.lt_succ_of_lt hlt
  have st3 : tn 0 s3.heap := T.keep _ _ _ st2 fun b _ o e => by
    rw [h3]
    exact Heap.get?_push_of_some _ e
  have I4 := block_start I3 ok hN f3
  have pg := hg s3 (upd H2 D e0) s3.heap.objs.size (cellsFrom (s3.heap.objs.size + 1) scope.names (cloFrom X.env.cells scope.names [])) fp
  have pt := ht s3 (upd H2 D e0) s3.heap.objs.size (cellsFrom (s3.heap.objs.size + 1) scope.names (cloFrom X.env.cells scope.names [])) fp
  have pk := hk s3 (upd H2 D e0) s3.heap.objs.size (cellsFrom (s3.heap.objs.size + 1) scope.names (cloFrom X.env.cells scope.names [])) fp
  have pe := he s3 (upd H2 D e0) s3.heap.objs.size (cellsFrom (s3.heap.objs.size + 1) scope.names (cloFrom X.env.cells scope.names [])) fp
  rw [hs3]
  show codeAny _ _ (.compStart (.DictComp kx vx [⟨tg, iter, ifs, 0⟩] scope pos) 0 (.ref it) (.ref s2.heap.objs.size) (compEnvC scope (cellsFrom (s3.heap.objs.size + 1) scope.names (cloFrom X.env.cells scope.names [])) s3.heap.objs.size X.env)) (compPost (model X.prog X.w) X.A X.xe use Qf (.ref s2.heap.objs.size) s3.heap.objs.size) { s3 with heap := pushCells (s3.heap.push { cls := .type "dict", data := .dict #[] }) scope.names }
  rw [hD]
  have nfp : ∀ b ∈ fp, (upd H2 D e0) b = none := fun b hb => (f3 b hb).1.1
  generalize hce : compEnvC scope (cellsFrom (s3.heap.objs.size + 1) scope.names (cloFrom X.env.cells scope.names [])) s3.heap.objs.size X.env = ce at I4 pg pt pk pe ⊢
  have cL : ce.locals = s3.heap.objs.size := by
    subst hce
    rfl
  generalize upd H2 D e0 = H3 at I3 I4 pg pt pk pe w0 nfp f3
  generalize hs4 : ({ s3 with heap := pushCells (s3.heap.push { cls := .type "dict", data := .dict #[] }) scope.names } : Shared) = s4 at I4 ⊢
  have st4 : tn 0 s4.heap := T.keep _ _ _ st3 fun b _ o e => by
    rw [← hs4]
    exact pushCells_keeps _ _ _ _ (Heap.get?_push_of_some _ e)
  have stat : ∀ {σ' : L2.St} {H' : Hp} {s' : Shared}, Inv (X.blk s3 H3 scope ce fp) [] σ' H' s' → (∀ b ∈ fp, H' b = none) → ∀ b ∈ fp, FpOk (X.blk s3 H3 scope ce fp) [] H' b := fun {σ' H' s'} I' hn b hb =>
    ⟨hn b hb, (I'.ok.exf b hb).1, I'.ok.exfs b hb, .inl hb, (I'.ok.exf b hb).2, fun p hp => absurd hp (by intro z; cases z)⟩
  have loop : codeAny (model X.prog X.w) X.A (.compLoop (.DictComp kx vx [⟨tg, iter, ifs, 0⟩] scope pos) 0 (.ref it) (.ref D) ce) (compPost (model X.prog X.w) X.A X.xe use Qf (.ref D) s3.heap.objs.size) s4 := by
    refine compLoop_anyD (fun n s' => ∃ i H', Inv (X.blk s3 H3 scope ce fp) [] (wipe σ (own.map (·.2))) H' s' ∧ tn i s'.heap ∧ (∀ b ∈ fp, H' b = none) ∧ W i n H') ?_ m0 ⟨0, H3, I4, st4, nfp, w0⟩
    rintro n s5 ⟨i, H5, I5, st5, n5, w5⟩
    rcases turn i n H5 w5 with ⟨stop, qq⟩ | ⟨go, Nx, hNx, step⟩
    · refine thnF (T.done (X.blk s3 H3 scope ce fp) rfl rfl rfl hc i [] s5 _ H5 (fun _ _ => False) I5 (stat I5 n5) st5 stop) fun r s6 ⟨hr, I6⟩ => ?_
      subst hr
      have I7 : Inv X pins σ H5 s6 := I3.call' (ch := fp) I6.os I6.base I6.hok I6.bare fun b hb =>
        let z := (f3 b hb).1.2
        ⟨z.2.2.1, z.1, z.2.2.2.1, z.2.2.2.2⟩
      obtain ⟨m, hn, _⟩ := I6.loc
      have hn : s6.heap.Ns ce.locals m := hn
      have nC : H5 ce.locals = none := I6.free
      rw [cL] at hn nC
      exact last D s3.heap.objs.size s6 m H5 I7 qq hn (I3.fpOk (Nat.le_refl _) nC)
    · refine thnF (T.item (X.blk s3 H3 scope ce fp) rfl rfl rfl hc i [] s5 _ H5 (fun _ _ => False) I5 (stat I5 n5) st5 go) fun r s6 ⟨u, hr, h6⟩ => ?_
      subst hr
      refine thnF h6 fun _ s7 ⟨x, H7, I7, r7, y7, st7, n7⟩ => ?_
      refine thnF (pg.run _ s7 _ H7 x u _ (I7.pinned (stat I7 n7) (T.obj _ _ st7)) r7 (step x H7 y7)) fun _ s8 ⟨σ8, H8, I8, hw8, q8⟩ => ?_
      refine thnF (pt.run _ s8 σ8 H8 _ I8 q8) fun b s9 ⟨H9, I9, q9⟩ => ?_
      have fin : ∀ {s' : Shared} {H' : Hp}, Inv (X.blk s3 H3 scope ce fp) ([] ++ pinsAt fp s7.heap) σ8 H' s' → Nx H' → ∃ m, m < n ∧ ∃ i H', Inv (X.blk s3 H3 scope ce fp) [] (wipe σ (own.map (·.2))) H' s' ∧ tn i s'.heap ∧ (∀ b ∈ fp, H' b = none) ∧ W i m H' := fun {s' H'} I' nx => by
        obtain ⟨m', hm, w'⟩ := hNx H' nx
        have kept : ∀ b ∈ fp, ∀ o, s7.heap.get? b = some o → s'.heap.get? b = some o ∧ H' b = none := fun b hb o e =>
          have z := I'.pin (b, o) (List.mem_append_right _ (List.mem_append_right _ (mem_pinsAt hb e)))
          ⟨z.1, z.2.1⟩
        refine ⟨m', hm, i + 1, H', (I'.unpinned (pins := [])).weak (by rw [← hw8, wipe_length]) (fun j v e => ?_), T.keep _ _ _ st7 fun b hb o e => (kept b hb o e).1, fun b hb => ?_, w'⟩
        · rw [← hw8] at e
          exact (wipe_some e).1
        · obtain ⟨o, eo, _⟩ := T.obj _ _ st7 b hb
          exact (kept b hb o eo).2
      cases b with
      | false => exact fin I9 q9
      | true =>
        refine thnF (pk.run _ s9 σ8 H9 _ I9 q9) fun z s10 ⟨yk, H10, I10, r10, q10⟩ => ?_
        refine thnF (pe.run _ s10 σ8 H10 _ I10 q10) fun z2 s11 ⟨yv, H11, I11, r11, H12, put, nx⟩ => ?_
        exact put_entry (X := X.blk s3 H3 scope ce fp) hu I11 put r10 r11 fun s12 I12 => fin I12 nx
  exact codeAny_compStart_dict loop (T.self X.A 0 _ _ _ st4 loop)
theorem pe_dg {e0 : HO} (be : Bare e0) {kx vx tg iter : Expr} {ifs : List Expr} {scope : Scope} {own : List (Str × Nat)} {pos : Pos} {wi : TI} {g : TG} {tt : TT} {tk tv : TE} (hu : X.A.units < cLine) (hc : X.calm = true) (hN : X.N.Nodup) (hi : PI X tg iter wi) (ok : BlkOk X.N X.env.scope scope own)
    (hg : ∀ s H C cl fp, PG (X.blk s H scope (compEnvC scope cl C X.env) fp) tg g) (ht : ∀ s H C cl fp, PTs (X.blk s H scope (compEnvC scope cl C X.env) fp) ifs tt)
    (hk : ∀ s H C cl fp, PE (X.blk s H scope (compEnvC scope cl C X.env) fp) kx tk) (he : ∀ s H C cl fp, PE (X.blk s H scope (compEnvC scope cl C X.env) fp) vx tv)
    (hs : ∀ x, foldedSetIterable iter X.env x = pure x := by intro _; rfl) : PE X (.DictComp kx vx [⟨tg, iter, ifs, 0⟩] scope pos) (tDg e0 wi g tt tk tv (own.map (·.2))) := by
  refine ⟨fun pins s σ H Q I h => ?_⟩
  rw [arm_eval_DictComp]
  refine dg_core be hu hc hN I hi ok hg ht hk he hs h fun D C s' m H' I' q hn f => ⟨m, hn, fun h'' sb => ?_⟩
  obtain ⟨f0, f1, f2, f3, f4, f5⟩ := f
  exact ⟨.ref D, H', I'.turned (t' := s'.toks) (fun b o hb e => (sb.2 b hb).trans e) f0 f1 f3 f4 f5, rfl, q⟩
/-- over a list that stays -/
theorem dg_list {e0 : HO} {K : PySem.W.Frag} {a : Addr} {xs : List V} {g : TG} {tt : TT} {tk tv : TE} {vs : List Nat} {σ : L2.St} {H1 : Hp} {D : Addr} {Qd : Hp → Prop} (Pv : Nat → Hp → Prop) (h0 : Pv 0 (upd H1 D e0)) (hl : ∀ i H, i ≤ xs.length → Pv i H → SqL K H a xs)
    (hs : ∀ i x H, xs[i]? = some x → Pv i H → g x (wipe σ vs) H fun σ2 H2 => wipe σ2 vs = wipe σ vs ∧ tt σ2 H2 fun b H3 =>
      if b = true then tk σ2 H3 fun y H4 => tv σ2 H4 fun z H5 => ∃ H6, DPut H5 D y z H6 ∧ Pv (i + 1) H6 else Pv (i + 1) H3) (hd : ∀ H, Pv xs.length H → Qd H) :
    ∃ W : Nat → Nat → Hp → Prop, (∃ m, W 0 m (upd H1 D e0)) ∧ ∀ i m H, W i m H →
      ((Itl K a).stop i H ∧ Qd H) ∨ ((Itl K a).go i H ∧ ∃ Nx : Hp → Prop, (∀ H', Nx H' → ∃ m', m' < m ∧ W (i + 1) m' H') ∧ ∀ x H', (Itl K a).yld i H x H' → g x (wipe σ vs) H' fun σ2 H2 => wipe σ2 vs = wipe σ vs ∧ tt σ2 H2 fun b H3 =>
        if b = true then tk σ2 H3 fun y H4 => tv σ2 H4 fun z H5 => ∃ H6, DPut H5 D y z H6 ∧ Nx H6 else Nx H3) := by
  refine ⟨fun i m H => i + m = xs.length ∧ Pv i H, ⟨xs.length, by simp, h0⟩, ?_⟩
  rintro i m H ⟨em, p⟩
  have q := hl i H (by omega) p
  by_cases hlt : i < xs.length
  · refine .inr ⟨⟨xs, xs[i], q, by simp [hlt]⟩, Pv (i + 1), fun H' p' => ⟨m - 1, by omega, by omega, p'⟩, fun x H' y => ?_⟩
    obtain ⟨e, y⟩ := y
    subst e
    exact hs i x _ (y xs q) p
  · obtain rfl : i = xs.length := by omega
    exact .inl ⟨⟨xs, q, Nat.le_refl _⟩, hd H p⟩
/-- over a range -/
theorem dg_range {e0 : HO} {lo : Int} {n : Nat} {g : TG} {tt : TT} {tk tv : TE} {vs : List Nat} {σ : L2.St} {H1 : Hp} {D : Addr} {Qd : Hp → Prop} (Pv : Nat → Hp → Prop) (h0 : Pv 0 (upd H1 D e0))
    (hs : ∀ i H, i < n → Pv i H → g (.int (lo + i)) (wipe σ vs) H fun σ2 H2 => wipe σ2 vs = wipe σ vs ∧ tt σ2 H2 fun b H3 =>
      if b = true then tk σ2 H3 fun y H4 => tv σ2 H4 fun z H5 => ∃ H6, DPut H5 D y z H6 ∧ Pv (i + 1) H6 else Pv (i + 1) H3) (hd : ∀ H, Pv n H → Qd H) :
    ∃ W : Nat → Nat → Hp → Prop, (∃ m, W 0 m (upd H1 D e0)) ∧ ∀ i m H, W i m H →
      ((Itr lo n).stop i H ∧ Qd H) ∨ ((Itr lo n).go i H ∧ ∃ Nx : Hp → Prop, (∀ H', Nx H' → ∃ m', m' < m ∧ W (i + 1) m' H') ∧ ∀ x H', (Itr lo n).yld i H x H' → g x (wipe σ vs) H' fun σ2 H2 => wipe σ2 vs = wipe σ vs ∧ tt σ2 H2 fun b H3 =>
        if b = true then tk σ2 H3 fun y H4 => tv σ2 H4 fun z H5 => ∃ H6, DPut H5 D y z H6 ∧ Nx H6 else Nx H3) := by
  refine ⟨fun i m H => i + m = n ∧ Pv i H, ⟨n, by simp, h0⟩, ?_⟩
  rintro i m H ⟨em, p⟩
  by_cases hlt : i < n
  · refine .inr ⟨hlt, Pv (i + 1), fun H' p' => ⟨m - 1, by omega, by omega, p'⟩, fun x H' y => ?_⟩
    obtain ⟨e, y⟩ := y
    subst e
    subst y
    exact hs i _ hlt p
  · obtain rfl : i = n := by omega
    exact .inl ⟨Nat.le_refl _, hd H p⟩
end
end DR

set_option Elab.async false
set_option linter.all false
set_option maxRecDepth 100000
set_option maxHeartbeats 4000000
namespace DR
open PySem PySem.Spec PyProof.Rows L2
/-! ### defs of the text, as they are called -/
/-- the module's name x is the def st -/
def IsDef (K : PySem.W.Frag) (mg : Str → Option Value) (x : Str) (st : Stmt) : Prop := ∃ f fd, FunD K x x (defArgs st) (defBody st) (defScope st) [] [] f fd ∧ mg x = some (.ref f)
/-- the class at C has the method m, the def st -/
def IsMeth (K : PySem.W.Frag) (C : Addr) (m qual : Str) (st : Stmt) : Prop := ∃ f fd, FunD K m qual (defArgs st) (defBody st) (defScope st) [] [] f fd ∧ Meth K C m f
/-- how many values it takes -/
def Takes0 (x q : Str) (st : Stmt) (ps : List Str) : Prop := ∀ (kV doc pm : Value) (an : Option Addr) (cdv ct : Value) (us : List Value), us.length = ps.length → bindArgs (PySem.W.fnOf x q (defArgs st) (defBody st) (defScope st) .none kV doc pm an cdv ct) ⟨us, []⟩ = pure (ps.zip us)
/-- called by its name it keeps sp -/
def Has (P : Program) (w : World) (K : PySem.W.Frag) (mg : Str → Option Value) (base : Heap) (k : Nat) (x : Str) (ps : List Str) (sp : Sp) : Prop :=
  ∃ f fd, mg x = some (.ref f) ∧ PySem.W.keepIn K (.ref f) = true ∧ FnOk P w K mg base CX0 k f fd ps sp ∧ L2.Binds K fd ps []
def HasM (P : Program) (w : World) (K : PySem.W.Frag) (mg : Str → Option Value) (base : Heap) (C : Addr) (k : Nat) (m : Str) (ps : List Str) (sp : Sp) : Prop :=
  ∃ f fd, Meth K C m f ∧ FnOk P w K mg base CX0 k f fd ps sp ∧ L2.Binds K fd ps []
section
variable {P : Program} {w : World} {K : PySem.W.Frag} {mg : Str → Option Value} {base : Heap}
theorem Has.up {j k : Nat} {x : Str} {ps : List Str} {sp : Sp} (h : Has P w K mg base j x ps sp) (l : j ≤ k) : Has P w K mg base k x ps sp := by
  obtain ⟨f, fd, h1, h2, h3, h4⟩ := h
  exact ⟨f, fd, h1, h2, h3.mono l, h4⟩
theorem HasM.up {C : Addr} {j k : Nat} {x : Str} {ps : List Str} {sp : Sp} (h : HasM P w K mg base C j x ps sp) (l : j ≤ k) : HasM P w K mg base C k x ps sp := by
  obtain ⟨f, fd, h1, h3, h4⟩ := h
  exact ⟨f, fd, h1, h3.mono l, h4⟩
theorem Has.weak {k : Nat} {x : Str} {ps : List Str} {sp sp' : Sp} (h : Has P w K mg base k x ps sp) (l : ∀ vs H Q E, sp' vs H Q E → sp vs H Q E) : Has P w K mg base k x ps sp' := by
  obtain ⟨f, fd, h1, h2, h3, h4⟩ := h
  exact ⟨f, fd, h1, h2, h3.imp l, h4⟩
/-- THE RULE for a def that lets nothing out -/
theorem has_of {x : Str} {st : Stmt} {N ps : List Str} {k : Nat} {sp : Sp} (D : IsDef K mg x st) (S : FnScope N ps (defScope st)) (B : Takes0 x x st ps) (len : ∀ vs H Q E, sp vs H Q E → vs.length = ps.length)
    (body : ∀ (f : Addr) (cdv : Value) (A : Around) (outer : List Env) (s : Shared) (H : Hp) (vs : List V) (Q : VK) (E : XK), Room k (A.deeper (envOfC x (defScope st) s.heap.objs.size f cdv)) → sp vs H Q E →
      ∃ t, PSs (cxOf CX0 P w K mg base N x (defScope st) f cdv A outer s H E).nox (defBody st) t ∧ t { nx := fun _ H' => Q .non H', rt := Q } (start N vs) H) : Has P w K mg base (k + 1) x ps sp := by
  obtain ⟨f, fd, F, g⟩ := D
  exact ⟨f, fd, g, F.kp, F.ok S len fun cdv A outer s H vs Q E hr h => (body f cdv A outer s H vs Q E hr h).imp fun t z => ⟨z.1.nox, z.2⟩, F.bindsN B⟩
theorem hasM_of {C : Addr} {x q : Str} {st : Stmt} {N ps : List Str} {k : Nat} {sp : Sp} (D : IsMeth K C x q st) (S : FnScope N ps (defScope st)) (B : Takes0 x q st ps) (len : ∀ vs H Q E, sp vs H Q E → vs.length = ps.length)
    (body : ∀ (f : Addr) (cdv : Value) (A : Around) (outer : List Env) (s : Shared) (H : Hp) (vs : List V) (Q : VK) (E : XK), Room k (A.deeper (envOfC q (defScope st) s.heap.objs.size f cdv)) → sp vs H Q E →
      ∃ t, PSs (cxOf CX0 P w K mg base N q (defScope st) f cdv A outer s H E).nox (defBody st) t ∧ t { nx := fun _ H' => Q .non H', rt := Q } (start N vs) H) : HasM P w K mg base C (k + 1) x ps sp := by
  obtain ⟨f, fd, F, g⟩ := D
  exact ⟨f, fd, g, F.ok S len fun cdv A outer s H vs Q E hr h => (body f cdv A outer s H vs Q E hr h).imp fun t z => ⟨z.1.nox, z.2⟩, F.bindsN B⟩
end
section
variable {X : Cx} {e o : Expr} {es : List Expr} {t : TA} {ta : TE} {x m : Str} {p pos apos : Pos} {k j : Nat} {ps : List Str} {sp : Sp}
/-- f(..) by its promise -/
def tHas (sp : Sp) (t : TA) : TE := fun σ H Q => t σ H fun vs H1 => sp vs H1 Q E0
theorem pe_has (h : Has X.prog X.w X.K X.mg X.base k x ps sp) (hr : Room j X.A) (l : k ≤ j) (hg : Gl X x) (ha : PA X (e :: es) t)
    (hdb : (x == ("__debug__" : Str)) = false := by decide) (he : starEach (e :: es) X.env = (false, eval e X.env) :: starEach es X.env := by rfl) (hpl : (backTo pos (starEach es X.env)).any (·.1) = false := by rfl) :
    PE X (.Call (.Name x p) (e :: es) [] pos) (tHas sp t) := by
  obtain ⟨f, fd, h1, h2, h3, h4⟩ := h
  have z := pe_call (p := p) (pos := pos) (dvs := []) (ds := []) h3 (hr.mono l) hg h1 h2 h4 .nil pass0 ha hdb he hpl
  refine ⟨fun pins s σ H Q I q => z.run pins s σ H Q I ?_⟩
  have q' : t σ H fun vs H1 => sp vs H1 Q E0 := q
  show t σ H fun vs H1 => sp (vs ++ []) H1 Q E0
  simpa only [List.append_nil] using q'
end
section
variable {X : Cx} {e o : Expr} {es : List Expr} {t : TA} {ta : TE} {x m : Str} {p pos apos : Pos} {k j : Nat} {ps : List Str} {sp : Sp} {C : Addr}
/-- o.m(..) by its promise -/
def tHasM (C : Addr) (m : Str) (sp : Sp) (ta : TE) (t : TA) : TE := fun σ H Q => ta σ H fun x H1 => ∃ a dx fs, x = .ref a ∧ H1 a = some (.ins C dx fs) ∧ fs.lookup m = none ∧ t σ H1 fun vs H2 => sp (x :: vs) H2 Q E0
theorem pe_hasM {pl : Sem Bool} (he : PE X o ta) (c : Cls X.K C) (h : HasM X.prog X.w X.K X.mg X.base C k m ps sp) (hr : Room j X.A) (l : k ≤ j) (ha : PA X (e :: es) t)
    (hst : starEach (e :: es) X.env = (false, eval e X.env) :: starEach es X.env := by rfl) (hpl : (backTo pos (starEach es X.env)).any (·.1) = false := by rfl)
    (ht : eval (.Call (.Attribute o m apos) (e :: es) [] pos) X.env = (do
      let ov ← eval o X.env
      standAt apos.atName
      let (f, first) ← holding [ov] (getMethod ov m pl)
      callWith pos f first (backTo pos (starEach (e :: es) X.env)) (backToKw pos (keywordEach [] X.env))) := by rfl) :
    PE X (.Call (.Attribute o m apos) (e :: es) [] pos) (tHasM C m sp ta t) := by
  obtain ⟨f, fd, h1, h3, h4⟩ := h
  have z := pe_meth (apos := apos) (pos := pos) (dvs := []) (ds := []) he c h1 h3 (hr.mono l) h4 .nil pass0 ha hst hpl ht
  refine ⟨fun pins s σ H Q I q => z.run pins s σ H Q I ?_⟩
  have q' : tHasM C m sp ta t σ H Q := q
  unfold tHasM at q'
  unfold tMeth
  simpa only [List.append_nil] using q'
theorem pe_hasM0 {pl : Sem Bool} (he : PE X o ta) (c : Cls X.K C) (h : HasM X.prog X.w X.K X.mg X.base C k m ps sp) (hr : Room j X.A) (l : k ≤ j)
    (ht : eval (.Call (.Attribute o m apos) [] [] pos) X.env = (do
      let ov ← eval o X.env
      standAt apos.atName
      let (f, first) ← holding [ov] (getMethod ov m pl)
      callWith pos f first (backTo pos (starEach [] X.env)) (backToKw pos (keywordEach [] X.env))) := by rfl) :
    PE X (.Call (.Attribute o m apos) [] [] pos) (tHasM C m sp ta tNil) := by
  obtain ⟨f, fd, h1, h3, h4⟩ := h
  have z := pe_meth0 (apos := apos) (pos := pos) (dvs := []) (ds := []) he c h1 h3 (hr.mono l) h4 .nil pass0 ht
  refine ⟨fun pins s σ H Q I q => z.run pins s σ H Q I ?_⟩
  have q' : tHasM C m sp ta tNil σ H Q := q
  unfold tHasM at q'
  unfold tMeth
  simpa only [List.append_nil] using q'
/-- C(..) by the promise of its __init__ -/
def tHasMk (C : Addr) (sp : Sp) (t : TA) : TE := fun σ H Q => t σ H fun vs H1 => ∀ x dx, H1 x = none → H1 dx = none → dx ≠ x → sp (.ref x :: vs) (L2.upd (L2.upd H1 dx (.own x)) x (.ins C dx [])) (fun v H2 => v = .non ∧ Q (.ref x) H2) E0
theorem pe_hasMk (h : HasM X.prog X.w X.K X.mg X.base C k "__init__" ps sp) (mk : PySem.W.makesIn X.K C = true) (kc : PySem.W.keepIn X.K (.ref C) = true) (hr : Room j X.A) (l : k + 1 ≤ j) (hg : Gl X x) (hm : X.mg x = some (.ref C)) (ha : PA X (e :: es) t)
    (hdb : (x == ("__debug__" : Str)) = false := by decide) (he : starEach (e :: es) X.env = (false, eval e X.env) :: starEach es X.env := by rfl) (hpl : (backTo pos (starEach es X.env)).any (·.1) = false := by rfl) :
    PE X (.Call (.Name x p) (e :: es) [] pos) (tHasMk C sp t) := by
  obtain ⟨f, fd, h1, h3, h4⟩ := h
  have z := pe_make (p := p) (pos := pos) (dvs := []) (ds := []) ⟨mk, h1.at_, h1.fn, kc⟩ h3 (hr.mono l) hg hm h4 .nil pass0 ha hdb he hpl
  refine ⟨fun pins s σ H Q I q => z.run pins s σ H Q I ?_⟩
  have q' : tHasMk C sp t σ H Q := q
  unfold tHasMk at q'
  unfold tMake
  simpa only [List.append_nil] using q'
end
/-! ### builtins that no name of the module hides -/
structure Blt (mg : Str → Option Value) : Prop where
  abs : mg "abs" = none
  all : mg "all" = none
  bool : mg "bool" = none
  dict : mg "dict" = none
  enumerate : mg "enumerate" = none
  int : mg "int" = none
  isinstance : mg "isinstance" = none
  len : mg "len" = none
  list : mg "list" = none
  max : mg "max" = none
  min : mg "min" = none
  range : mg "range" = none
  set : mg "set" = none
  sorted : mg "sorted" = none
  str : mg "str" = none
  tuple : mg "tuple" = none
  zip : mg "zip" = none
/-! ### heaps -/
/-- all but d is as it was -/
def Kp (d : Addr) (H H' : Hp) : Prop := ∀ b o, b ≠ d → H b = some o → H' b = some o
theorem Kp.refl (d : Addr) (H : Hp) : Kp d H H := fun _ _ _ h => h
theorem Kp.trans {d : Addr} {H H1 H2 : Hp} (a : Kp d H H1) (b : Kp d H1 H2) : Kp d H H2 := fun c o n h => b c o n (a c o n h)
theorem Same.kp {H H' : Hp} (s : Same H H') (d : Addr) : Kp d H H' := fun b o _ h => s b o h
theorem Kp.put (d : Addr) (H : Hp) (o : HO) : Kp d H (upd H d o) := fun b u n h => by
  rw [upd_ne n]
  exact h
theorem same_new {H : Hp} {p : Addr} {o : HO} (h : H p = none) : Same H (upd H p o) := fun b u e => by
  rw [upd_ne (ne_of_none e h)]
  exact e
theorem none_upd {H : Hp} {p q : Addr} {o : HO} (h : upd H p o q = none) : q ≠ p ∧ H q = none := by
  have n : q ≠ p := fun z => by
    rw [z, upd_same] at h
    cases h
  rw [upd_ne n] at h
  exact ⟨n, h⟩
theorem upd_self {H : Hp} {d : Addr} {o : HO} (h : H d = some o) : upd H d o = H := by
  funext b
  by_cases c : b = d
  · rw [c, upd_same, h]
  · exact upd_ne c
theorem seq_keep {K : PySem.W.Frag} {H H' : Hp} {a : Addr} {xs : List V} (k : ∀ b o, b = a → H b = some o → H' b = some o) (h : SqL K H a xs) : SqL K H' a xs := by
  rcases h with (h | ⟨o, h⟩) | h
  · exact .inl (.inl (k _ _ rfl h))
  · exact .inl (.inr ⟨o, k _ _ rfl h⟩)
  · exact .inr h
theorem ints_at {ns : List Int} {i : Nat} {y : V} (hi : (ns.map V.int)[i]? = some y) : ∃ z, y = V.int z := by
  rw [List.getElem?_map] at hi
  cases e : ns[i]? with
  | none =>
    rw [e] at hi
    cases hi
  | some z =>
    rw [e] at hi
    exact ⟨z, (Option.some.inj hi).symm⟩
theorem iteD {c A B : Prop} [Decidable c] (hc : c) (h : A) : if decide c = true then A else B := by
  rw [decide_eq_true hc]
  exact iteT h
/-- the dice: two numbers and more -/
def Dice (o : HO) : Prop := ∃ xs : List Int, o = .lst (xs.map V.int) ∧ 2 ≤ xs.length
def DiceAt (H : Hp) (d : Addr) : Prop := ∃ o, H d = some o ∧ Dice o
theorem DiceAt.put {H : Hp} {d : Addr} {o : HO} (h : Dice o) : DiceAt (upd H d o) d := ⟨o, upd_same, h⟩
theorem fmod_in {a m : Int} (h : 0 < m) : 0 ≤ a.fmod m ∧ a.fmod m < m := by
  rw [Int.fmod_eq_emod_of_nonneg _ (Int.le_of_lt h)]
  exact ⟨Int.emod_nonneg _ (by omega), Int.emod_lt_of_pos _ h⟩
/-- tuples of two numbers each -/
def TupsAt (H : Hp) (as : List Addr) (ps : List (Int × Int)) : Prop := Paired (fun a (p : Int × Int) => H a = some (.tup [.int p.1, .int p.2])) as ps
theorem TupsAt.keep {H H' : Hp} {as : List Addr} {ps : List (Int × Int)} (h : TupsAt H as ps) (k : ∀ b xs, H b = some (.tup xs) → H' b = some (.tup xs)) : TupsAt H' as ps := Paired.mapP h fun a p e => k _ _ e
theorem TupsAt.same {H H' : Hp} {as : List Addr} {ps : List (Int × Int)} (h : TupsAt H as ps) (k : Same H H') : TupsAt H' as ps := h.keep fun b _ e => k b _ e
theorem TupsAt.lst {H : Hp} {D : Addr} {xs : List V} {o : HO} {as : List Addr} {ps : List (Int × Int)} (h : TupsAt H as ps) (hD : H D = some (.lst xs)) : TupsAt (upd H D o) as ps := h.keep fun b ys e => by
  rw [upd_ne (ne_of e hD (by intro z; cases z))]
  exact e
theorem TupsAt.new {H : Hp} {D : Addr} {o : HO} {as : List Addr} {ps : List (Int × Int)} (h : TupsAt H as ps) (hD : H D = none) : TupsAt (upd H D o) as ps := h.same (same_new hD)
theorem TupsAt.append {H : Hp} : ∀ {as bs : List Addr} {ps qs : List (Int × Int)}, TupsAt H as ps → TupsAt H bs qs → TupsAt H (as ++ bs) (ps ++ qs)
  | _, _, _, _, .nil, h => h
  | _, _, _, _, .cons r t, h => .cons r (TupsAt.append t h)
theorem TupsAt.length {H : Hp} {as : List Addr} {ps : List (Int × Int)} (h : TupsAt H as ps) : as.length = ps.length := Paired.length h
theorem TupsAt.at_ {H : Hp} : ∀ {as : List Addr} {ps : List (Int × Int)} {i : Nat} {a : Addr}, TupsAt H as ps → as[i]? = some a → ∃ p, ps[i]? = some p ∧ H a = some (.tup [.int p.1, .int p.2])
  | _, _, _, _, .nil, e => by simp at e
  | _, _, 0, _, .cons r _, e => by
    simp at e
    subst e
    exact ⟨_, rfl, r⟩
  | _, _, i + 1, a, .cons _ t, e => by
    obtain ⟨p, h1, h2⟩ := TupsAt.at_ (i := i) (a := a) t (by simpa using e)
    exact ⟨p, by simpa using h1, h2⟩
theorem refs_at' {as : List Addr} {i : Nat} {y : V} (hi : (as.map V.ref)[i]? = some y) : ∃ a, y = V.ref a ∧ as[i]? = some a := by
  rw [List.getElem?_map] at hi
  cases e : as[i]? with
  | none =>
    rw [e] at hi
    cases hi
  | some z =>
    rw [e] at hi
    exact ⟨z, (Option.some.inj hi).symm, rfl⟩
/-- a list of them -/
def PairsAt (H : Hp) (l : Addr) (ps : List (Int × Int)) : Prop := ∃ as : List Addr, H l = some (.lst (as.map V.ref)) ∧ TupsAt H as ps
theorem PairsAt.keep {H H' : Hp} {l : Addr} {ps : List (Int × Int)} (h : PairsAt H l ps) (k : ∀ b o, H b = some o → (b = l ∨ ∃ xs, o = .tup xs) → H' b = some o) : PairsAt H' l ps := by
  obtain ⟨as, e, t⟩ := h
  exact ⟨as, k _ _ e (.inl rfl), t.keep fun b xs z => k _ _ z (.inr ⟨xs, rfl⟩)⟩
theorem PairsAt.same {H H' : Hp} {l : Addr} {ps : List (Int × Int)} (h : PairsAt H l ps) (k : Same H H') : PairsAt H' l ps := h.keep fun b o e _ => k b o e
theorem PairsAt.kp {H H' : Hp} {d l : Addr} {ps : List (Int × Int)} {xs : List V} (h : PairsAt H l ps) (k : Kp d H H') (hd : H d = some (.lst xs)) (n : l ≠ d) : PairsAt H' l ps := h.keep fun b o e z => k b o (by
  rcases z with z | ⟨ys, z⟩
  · exact z ▸ n
  · subst z
    exact ne_of e hd (by intro z; cases z)) e
/-! ### all pairs -/
def rowOf (n i : Nat) : List (Int × Int) := (List.range (n - (i + 1))).map fun j : Nat => ((i : Int), (i : Int) + 1 + (j : Int))
def pairsTo (n k : Nat) : List (Int × Int) := (List.range k).flatMap (rowOf n)
def pairsOf (n : Nat) : List (Int × Int) := pairsTo n n
theorem pairsTo_succ (n k : Nat) : pairsTo n (k + 1) = pairsTo n k ++ rowOf n k := by
  unfold pairsTo
  rw [List.range_succ, List.flatMap_append]
  simp
theorem rowOf_take (n i j : Nat) (h : j < n - (i + 1)) : (rowOf n i).take (j + 1) = (rowOf n i).take j ++ [((i : Int), (i : Int) + 1 + (j : Int))] := by
  unfold rowOf
  rw [List.take_succ]
  simp [h]
theorem rowOf_len (n i : Nat) : (rowOf n i).length = n - (i + 1) := by simp [rowOf]
theorem pairsTo_len (n : Nat) : ∀ k, (pairsTo n k).length ≤ k * n
  | 0 => by simp [pairsTo]
  | k + 1 => by
    rw [pairsTo_succ, List.length_append, rowOf_len, Nat.succ_mul]
    have := pairsTo_len n k
    omega
theorem mem_pairsTo {n k : Nat} {a b : Int} : (a, b) ∈ pairsTo n k ↔ 0 ≤ a ∧ a < k ∧ a < b ∧ b < n := by
  unfold pairsTo rowOf
  rw [List.mem_flatMap]
  constructor
  · rintro ⟨i, hi, hm⟩
    obtain ⟨j, hj, e⟩ := List.mem_map.mp hm
    have hi := List.mem_range.mp hi
    have hj := List.mem_range.mp hj
    injection e with e1 e2
    omega
  · rintro ⟨h1, h2, h3, h4⟩
    refine ⟨a.toNat, List.mem_range.mpr (by omega), List.mem_map.mpr ⟨(b - a - 1).toNat, List.mem_range.mpr (by omega), ?_⟩⟩
    rw [Prod.mk.injEq]
    omega
theorem mem_pairsOf {n : Nat} {a b : Int} : (a, b) ∈ pairsOf n ↔ 0 ≤ a ∧ a < b ∧ b < n := by
  unfold pairsOf
  rw [mem_pairsTo]
  omega
theorem nodup_pairsTo (n : Nat) : ∀ k, (pairsTo n k).Nodup
  | 0 => by simp [pairsTo]
  | k + 1 => by
    rw [pairsTo_succ, List.nodup_append]
    refine ⟨nodup_pairsTo n k, ?_, ?_⟩
    · unfold rowOf
      refine List.Pairwise.map _ (fun a b h e => ?_) List.nodup_range
      · injection e with e1 e2
        exact h (by omega)
    · rintro ⟨a, b⟩ h1 ⟨c, d⟩ h2 e
      injection e with e1 e2
      have h3 := (mem_pairsTo.mp h1).2.1
      unfold rowOf at h2
      obtain ⟨j, _, e3⟩ := List.mem_map.mp h2
      injection e3 with e4 e5
      omega
theorem nodup_pairsOf (n : Nat) : (pairsOf n).Nodup := nodup_pairsTo n n
theorem pairsOf_len (n : Nat) : (pairsOf n).length ≤ n * n := pairsTo_len n n
/-! ### ties of a yard -/
structure Ties (n : Nat) (ps : List (Int × Int)) : Prop where
  nd : ps.Nodup
  rng : ∀ p ∈ ps, 0 ≤ p.1 ∧ p.1 < p.2 ∧ p.2 < n
theorem Ties.all (n : Nat) : Ties n (pairsOf n) := ⟨nodup_pairsOf n, fun ⟨a, b⟩ h => mem_pairsOf.mp h⟩
theorem Ties.sub {n : Nat} {ps qs : List (Int × Int)} (h : Ties n ps) (s : qs.Sublist ps) : Ties n qs := ⟨h.nd.sublist s, fun p hp => h.rng p (s.subset hp)⟩
theorem Ties.perm {n : Nat} {ps qs : List (Int × Int)} (h : Ties n ps) (s : qs.Perm ps) : Ties n qs := ⟨s.nodup_iff.mpr h.nd, fun p hp => h.rng p (s.mem_iff.mp hp)⟩
theorem nodup_le {α : Type} [DecidableEq α] : ∀ (l D : List α), l.Nodup → (∀ x ∈ l, x ∈ D) → l.length ≤ D.length
  | [], _, _, _ => Nat.zero_le _
  | x :: l, D, hn, hs => by
    obtain ⟨h1, h2⟩ := List.nodup_cons.mp hn
    have hx : x ∈ D := hs x List.mem_cons_self
    have ih := nodup_le l (D.erase x) h2 fun y hy => (List.mem_erase_of_ne (fun (e : y = x) => h1 (e ▸ hy))).2 (hs y (List.mem_cons_of_mem _ hy))
    have e := List.length_erase_of_mem hx
    have hp : 0 < D.length := List.length_pos_of_mem hx
    rw [List.length_cons]
    omega
theorem Ties.len {n : Nat} {ps : List (Int × Int)} (h : Ties n ps) : ps.length ≤ n * n :=
  Nat.le_trans (nodup_le ps (pairsOf n) h.nd fun ⟨a, b⟩ hp => mem_pairsOf.mpr (h.rng _ hp)) (pairsOf_len n)
theorem Ties.len900 {n : Nat} {ps : List (Int × Int)} (h : Ties n ps) (hn : n ≤ 30) : ps.length ≤ 900 :=
  Nat.le_trans h.len (Nat.mul_le_mul hn hn)
/-- a permuted list of tuples is one of tuples -/
theorem TupsAt.perm {H : Hp} {as : List Addr} {ps : List (Int × Int)} (h : TupsAt H as ps) {ys : List V} (pm : ys.Perm (as.map V.ref)) : ∃ bs qs, ys = bs.map V.ref ∧ TupsAt H bs qs ∧ qs.Perm ps := by
  have hy : ∀ y ∈ ys, ∃ a, y = V.ref a := fun y hy => by
    obtain ⟨a, _, e⟩ := List.mem_map.mp (pm.mem_iff.mp hy)
    exact ⟨a, e.symm⟩
  have key : ∀ {zs ws : List V}, zs.Perm ws → ∀ (as : List Addr) (ps : List (Int × Int)), ws = as.map V.ref → TupsAt H as ps → ∃ bs qs, zs = bs.map V.ref ∧ TupsAt H bs qs ∧ qs.Perm ps := by
    intro zs ws pm
    induction pm with
    | nil =>
      intro as ps e t
      have : as = [] := by simpa using e.symm
      subst this
      cases t
      exact ⟨[], [], rfl, .nil, List.Perm.refl _⟩
    | cons x _ ih =>
      intro as ps e t
      cases as with
      | nil => cases e
      | cons a as =>
        cases t with
        | cons r t =>
          injection e with e1 e2
          obtain ⟨bs, qs, h1, h2, h3⟩ := ih as _ e2 t
          exact ⟨a :: bs, _ :: qs, by rw [h1, e1] <;> rfl, .cons r h2, h3.cons _⟩
    | swap x y l =>
      intro as ps e t
      cases as with
      | nil => cases e
      | cons a as =>
        cases as with
        | nil => cases e
        | cons b as =>
          cases t with
          | cons r t =>
            cases t with
            | cons r2 t =>
              injection e with e1 e2
              injection e2 with e2 e3
              exact ⟨b :: a :: as, _, by rw [e1, e2, e3] <;> rfl, .cons r2 (.cons r t), List.Perm.swap _ _ _⟩
    | trans _ _ ih1 ih2 =>
      intro as ps e t
      obtain ⟨bs, qs, h1, h2, h3⟩ := ih2 as ps e t
      obtain ⟨cs, rs, k1, k2, k3⟩ := ih1 bs qs h1 h2
      exact ⟨cs, rs, k1, k2, k3.trans h3⟩
  exact key pm as ps rfl h
theorem TupsAt.drop {H : Hp} : ∀ {as : List Addr} {ps : List (Int × Int)} (k : Nat), TupsAt H as ps → TupsAt H (as.drop k) (ps.drop k)
  | _, _, 0, h => h
  | _, _, _ + 1, .nil => .nil
  | _, _, k + 1, .cons _ t => TupsAt.drop k t
theorem TupsAt.take {H : Hp} : ∀ {as : List Addr} {ps : List (Int × Int)} (k : Nat), TupsAt H as ps → TupsAt H (as.take k) (ps.take k)
  | _, _, 0, _ => .nil
  | _, _, _ + 1, .nil => .nil
  | _, _, k + 1, .cons r t => .cons r (TupsAt.take k t)
theorem TupsAt.mem {H : Hp} {as : List Addr} {ps : List (Int × Int)} (h : TupsAt H as ps) {a : Addr} (ha : a ∈ as) : ∃ p ∈ ps, H a = some (.tup [.int p.1, .int p.2]) := by
  obtain ⟨i, hi⟩ := List.getElem?_of_mem ha
  obtain ⟨p, h1, h2⟩ := h.at_ hi
  exact ⟨p, List.mem_of_getElem? h1, h2⟩
theorem cut_from (xs : List V) (k : Nat) : cutV xs (some (k : Int)) none = xs.drop k := by
  unfold cutV
  rw [HT.sIx_nat, HT.sIx_none]
  by_cases h : k ≤ xs.length
  · rw [Nat.min_eq_left h]
    exact List.take_of_length_le (by rw [List.length_drop]; exact Nat.le_refl _)
  · rw [Nat.min_eq_right (by omega), List.drop_eq_nil_of_le (Nat.le_refl _), List.drop_eq_nil_of_le (by omega)]
    simp
theorem atI_any {xs : List V} {i : Int} (h0 : 0 ≤ i) (h1 : i < xs.length) : ∃ v ∈ xs, atI xs i = some v := by
  obtain ⟨j, rfl⟩ : ∃ j : Nat, i = (j : Int) := ⟨i.toNat, by omega⟩
  have hj : j < xs.length := by omega
  exact ⟨xs[j], List.getElem_mem hj, atI_nat (List.getElem?_eq_getElem hj)⟩
theorem Ties.bound {n : Nat} {ps : List (Int × Int)} (h : Ties n ps) {p : Int × Int} (hp : p ∈ ps) : 0 ≤ p.1 ∧ p.1 < n ∧ 0 ≤ p.2 ∧ p.2 < n := by
  have := h.rng p hp
  omega
end DR

set_option Elab.async false
set_option linter.all false
set_option maxRecDepth 100000
set_option maxHeartbeats 4000000
namespace DR
open PySem PySem.Spec PyProof.Rows L2
/-! ### pairs looked up in a list, in a dict -/
def tiedD (ps : List (Int × Int)) : List (List Key × V) := ps.map fun p => ([Sum.inl p.1, Sum.inl p.2], V.bl true)
theorem valV_tied (ps : List (Int × Int)) (a b : Int) : valV (tiedD ps) [Sum.inl a, Sum.inl b] = if (a, b) ∈ ps then some (.bl true) else none := by
  induction ps with
  | nil => rfl
  | cons q r ih =>
    unfold tiedD at ih ⊢
    rw [List.map_cons]
    by_cases e : q = (a, b)
    · subst e
      rw [valV_pos rfl, if_pos List.mem_cons_self]
    · rw [valV_neg, ih]
      · by_cases m : (a, b) ∈ r
        · rw [if_pos m, if_pos (List.mem_cons_of_mem _ m)]
        · rw [if_neg m, if_neg (fun z => (List.mem_cons.mp z).elim (fun z => e z.symm) m)]
      · intro z
        injection z with z1 z2
        injection z2 with z2 _
        exact e (Prod.ext (Sum.inl.inj z1) (Sum.inl.inj z2))
theorem putK_tied {ps : List (Int × Int)} {p : Int × Int} (h : p ∉ ps) : putK (tiedD ps) [Sum.inl p.1, Sum.inl p.2] (.bl true) = tiedD (ps ++ [p]) := by
  have hv : valV (tiedD ps) [Sum.inl p.1, Sum.inl p.2] = none := by
    rw [valV_tied, if_neg h]
  rw [putK_new _ hv]
  simp [tiedD]
def pd (p : Int × Int) : PyData := .tuple [.int p.1, .int p.2]
theorem pd_eqv (p q : Int × Int) : PyData.eqv (pd p) (pd q) = decide (p = q) := by
  rw [Bool.eq_iff_iff]
  simp [pd, PyData.eqv, PyData.eqvAll, Prod.ext_iff]
theorem pd_lay (p : Int × Int) : (pd p).canLay0 = true := by simp [pd, PyData.canLay0, PyData.canLayAll0]
theorem pd_depth (p : Int × Int) : (pd p).depth = 1 := by simp [pd, PyData.depth, PyData.depthAll]
theorem pds_lay : ∀ ps : List (Int × Int), PyData.canLayAll0 (ps.map pd) = true
  | [] => by simp [PyData.canLayAll0]
  | p :: ps => by simp [PyData.canLayAll0, pd_lay p, pds_lay ps]
theorem pds_depth : ∀ ps : List (Int × Int), PyData.depthAll (ps.map pd) ≤ 1
  | [] => by simp [PyData.depthAll]
  | p :: ps => by
    have := pds_depth ps
    simp [PyData.depthAll, pd_depth p, this]
theorem pd_shaped (p : Int × Int) : SeqAt.shaped (pd p) = true := by simp [SeqAt.shaped, pd_lay, pd_depth]
theorem pds_shaped (ps : List (Int × Int)) : SeqAt.shaped (.list (ps.map pd)) = true := by
  have := pds_depth ps
  simp [SeqAt.shaped, PyData.canLay0, pds_lay, PyData.depth]
  omega
theorem pd_dp {K : PySem.W.Frag} {H : Hp} {t : Addr} {p : Int × Int} (e : H t = some (.tup [.int p.1, .int p.2])) : Dp K H (.ref t) (pd p) := .tup (SqT.of e) (.cons (.int _) (.cons (.int _) .nil))
theorem pds_dp {K : PySem.W.Frag} {H : Hp} : ∀ {as : List Addr} {ps : List (Int × Int)}, TupsAt H as ps → DpAll K H (as.map V.ref) (ps.map pd)
  | _, _, .nil => .nil
  | _, _, .cons r t => .cons (pd_dp r) (pds_dp t)
theorem PairsAt.dp {K : PySem.W.Frag} {H : Hp} {l : Addr} {ps : List (Int × Int)} (h : PairsAt H l ps) : Dp K H (.ref l) (.list (ps.map pd)) := by
  obtain ⟨as, e, t⟩ := h
  exact .lst (SqL.of e) (pds_dp t)
theorem pds_any (ps : List (Int × Int)) (p : Int × Int) : (ps.map pd).any (fun z => PyData.eqv z (pd p)) = decide (p ∈ ps) := by
  induction ps with
  | nil => rfl
  | cons q r ih =>
    rw [List.map_cons, List.any_cons, ih, pd_eqv]
    by_cases e : q = p
    · subst e
      simp
    · have e' : p ≠ q := fun z => e z.symm
      by_cases m : p ∈ r
      · simp [e, m]
      · simp [e, e', m]
theorem pds_eqv (ps qs : List (Int × Int)) : PyData.eqv (.list (ps.map pd)) (.list (qs.map pd)) = decide (ps = qs) := by
  have key : ∀ ps qs : List (Int × Int), PyData.eqvAll (ps.map pd) (qs.map pd) = decide (ps = qs) := by
    intro ps
    induction ps with
    | nil =>
      intro qs
      cases qs <;> simp [PyData.eqvAll]
    | cons p ps ih =>
      intro qs
      cases qs with
      | nil => simp [PyData.eqvAll]
      | cons q qs =>
        rw [List.map_cons, List.map_cons]
        rw [Bool.eq_iff_iff]
        simp [PyData.eqvAll, ih, pd_eqv]
  rw [← key ps qs]
  simp [PyData.eqv]
/-- a list or a dict of ties -/
def Known (H : Hp) (k : Addr) (ps : List (Int × Int)) : Prop := PairsAt H k ps ∨ H k = some (.dT (tiedD ps))
theorem Known.same {H H' : Hp} {k : Addr} {ps : List (Int × Int)} (h : Known H k ps) (s : Same H H') : Known H' k ps := by
  rcases h with h | h
  · exact .inl (h.same s)
  · exact .inr (s _ _ h)
section
variable {X : Cx}
def rInKn (neg : Bool) : R2 := fun x y H Q => ∃ (t k : Addr) (p : Int × Int) (ps : List (Int × Int)), x = .ref t ∧ y = .ref k ∧ H t = some (.tup [.int p.1, .int p.2]) ∧ Known H k ps ∧ Q (.bl (if neg then !decide (p ∈ ps) else decide (p ∈ ps))) H
theorem op_inKn (hu : X.A.units + 65 < cLine) : OpR X (compareOp .In) (rInKn false) := by
  intro pins s σ H x y v u Q I rx ry h
  obtain ⟨t, k, p, ps, rfl, rfl, ht, hk, q⟩ := h
  rcases hk with hk | hk
  · refine op_inD hu pins s σ H _ _ v u Q I rx ry ⟨pd p, ps.map pd, pd_dp ht, hk.dp, pd_shaped p, pds_shaped ps, ?_⟩
    rw [pds_any]
    exact q
  · cases ry
    refine d_in (by omega) I (DGet.t (k := [Sum.inl p.1, Sum.inl p.2]) hk ht) rx fun s' I' => ⟨.bl _, H, I', rfl, ?_⟩
    rw [valV_tied]
    by_cases m : (p.1, p.2) ∈ ps
    · rw [if_pos m]
      have e : decide (p ∈ ps) = true := decide_eq_true m
      simpa [e] using q
    · rw [if_neg m]
      have e : decide (p ∈ ps) = false := decide_eq_false m
      simpa [e] using q
theorem op_notInKn (hu : X.A.units + 65 < cLine) : OpR X (compareOp .NotIn) (rInKn true) := by
  intro pins s σ H x y v u Q I rx ry h
  obtain ⟨t, k, p, ps, rfl, rfl, ht, hk, q⟩ := h
  rcases hk with hk | hk
  · refine op_notInD hu pins s σ H _ _ v u Q I rx ry ⟨pd p, ps.map pd, pd_dp ht, hk.dp, pd_shaped p, pds_shaped ps, ?_⟩
    rw [pds_any]
    exact q
  · cases ry
    refine d_notIn (by omega) I (DGet.t (k := [Sum.inl p.1, Sum.inl p.2]) hk ht) rx fun s' I' => ⟨.bl _, H, I', rfl, ?_⟩
    rw [valV_tied]
    by_cases m : (p.1, p.2) ∈ ps
    · rw [if_pos m]
      have e : decide (p ∈ ps) = true := decide_eq_true m
      simpa [e] using q
    · rw [if_neg m]
      have e : decide (p ∈ ps) = false := decide_eq_false m
      simpa [e] using q
end
end DR

set_option Elab.async false
set_option linter.all false
set_option maxRecDepth 100000
set_option maxHeartbeats 4000000
namespace DR
open PySem PySem.Spec PyProof.Rows L2
def top (i : Nat) : Stmt := PySem.Challenge.pw_denseround_k19_asked_again.main.body.getD i (.Pass ⟨0, 0, 0, 0⟩)
abbrev s_Said_init : Stmt := inClass (top 2) 0
abbrev s_Said_many_not_out : Stmt := inClass (top 2) 1
abbrev s_nothing_said : Stmt := top 3
abbrev s_said_out : Stmt := top 4
abbrev s_said_in : Stmt := top 5
abbrev s_way_from : Stmt := top 6
abbrev s_leaf_of : Stmt := top 7
abbrev s_barred_tie : Stmt := top 8
abbrev s_tightest_tie : Stmt := top 9
abbrev s_node_of : Stmt := top 10
abbrev s_tree_of : Stmt := top 11
abbrev s_BadYard_init : Stmt := inClass (top 14) 0
abbrev s_check_searched : Stmt := top 19
abbrev s_group_of : Stmt := top 20
abbrev s_groups_without : Stmt := top 21
abbrev s_parting : Stmt := top 22
abbrev s_without : Stmt := top 24
abbrev s_ways_home : Stmt := top 25
abbrev s_least_onward : Stmt := top 26
abbrev s_least_round : Stmt := top 27
abbrev s_round_of : Stmt := top 28
abbrev s_counted : Stmt := top 29
abbrev s_check_order : Stmt := top 31
abbrev s_gaps : Stmt := top 32
abbrev s_is_round : Stmt := top 33
abbrev s_begun_behind : Stmt := top 34
abbrev s_turned : Stmt := top 35
abbrev s_least_back : Stmt := top 36
abbrev s_first_turning : Stmt := top 37
abbrev s_rounded : Stmt := top 38
abbrev s_check_yard : Stmt := top 41
abbrev s_Yard_init : Stmt := inClass (top 42) 0
abbrev s_Yard_many : Stmt := inClass (top 42) 1
abbrev s_Yard_ties : Stmt := inClass (top 42) 2
abbrev s_Yard_is_tied : Stmt := inClass (top 42) 3
abbrev s_Yard_degree : Stmt := inClass (top 42) 4
abbrev s_untied : Stmt := top 43
abbrev s_thin : Stmt := top 44
abbrev s_first_with_enough : Stmt := top 46
abbrev s_closed : Stmt := top 47
abbrev s_tied_too : Stmt := top 48
abbrev s_without_gap : Stmt := top 49
abbrev s_opened : Stmt := top 50
abbrev s_by_closing : Stmt := top 51
abbrev s_written : Stmt := top 53
abbrev s__law_dice : Stmt := top 55
abbrev s__law_off : Stmt := top 56
abbrev s__law_pairs : Stmt := top 57
abbrev s__law_mixed : Stmt := top 58
abbrev s__law_yard : Stmt := top 59
abbrev s__law_made : Stmt := top 60
abbrev s__law_kept : Stmt := top 61
abbrev s__law_told : Stmt := top 62
abbrev s_law : Stmt := top 63
end DR
namespace DR
open PySem
abbrev paperN : Str := "none"
end DR
namespace DR
open PySem
abbrev refN : Str := "none"
end DR
namespace DR
open PySem
abbrev wayN : Str := "_law_way"
end DR

set_option Elab.async false
set_option linter.all false
set_option maxRecDepth 100000
set_option maxHeartbeats 4000000
namespace DR
open PySem PySem.Spec PyProof.Rows L2
section
variable {P : Program} {w : World} {K : PySem.W.Frag} {mg : Str → Option Value} {base : Heap}
/-! ### the dice -/
def spDice (K : PySem.W.Frag) : Sp := fun vs H Q _ => ∃ (a : Addr) (k : Int) (ns : List Int), vs = [.ref a, .int k] ∧ SqL K H a (ns.map V.int) ∧ ns.length ≤ 63 ∧ 0 ≤ k ∧ k < 2147483647 ∧
  ∀ H' d, Same H H' → H d = none → DiceAt H' d → Q (.ref d) H'
theorem scDice : FnScope ["_law_script", "_law_k", "_law_found", "_law_cell"] ["_law_script", "_law_k"] (defScope s__law_dice) := ⟨rfl, rfl, rfl, by decide +kernel, rfl, by decide +kernel, by decide +kernel⟩
theorem has_dice (D : IsDef K mg "_law_dice" s__law_dice) (B : Blt mg) : Has P w K mg base 1 "_law_dice" ["_law_script", "_law_k"] (spDice K) := by
  refine has_of D scDice (fun _ _ _ _ _ _ us hl => match us, hl with | [_, _], _ => rfl) (fun vs H Q E h => ?_) (fun f cdv A outer s H vs Q E hr h => ?_)
  · obtain ⟨a, k, ns, rfl, _⟩ := h
    rfl
  · obtain ⟨a, k, ns, rfl, hS, hn, k0, k1, q⟩ := h
    refine ⟨_, pss_cons (ps_set (i := 2) scDice.nd rfl (.inl rfl) (pv 1))
      (pss_cons (ps_for PassesOwn.never rfl (pi_list (pv 0)) (pg_name (i := 3) scDice.nd rfl (.inl rfl))
        (pss_one (ps_set (i := 2) scDice.nd rfl (.inl rfl) (pe_op op_modN (pe_op op_add (pe_op op_mul (pv 2) pe_int) (pe_callB call_abs (by rfl) B.abs (by decide +kernel) (pa_cons (pv 3) pa_nil))) pe_int))))
      (pss_one (ps_ret (pe_op op_cat (pe_lst (pa_cons (pv 2) (pa_cons pe_int pa_nil)))
        (pe_lc (own := [("_law_cell", 3)]) (g := gName 3) (by rfl) scDice.nd (pi_list (pv 0)) (blkOk_by (N := ["_law_script", "_law_k", "_law_found", "_law_cell"]) (sc := defScope s__law_dice) (by decide +kernel)) (fun _ _ _ _ _ => pg_name (i := 3) scDice.nd rfl (.inl rfl))
          (fun _ _ _ _ _ => pts_one (pt_cmpR op_ge (pv 3) (pe_op op_pow pe_int pe_int) (nomark _))) (fun _ _ _ _ _ => pv 3)))))), ?_⟩
    refine ⟨_, rfl, _, rfl, a, rfl, ⟨_, hS⟩, for_list (K := K) (a := a) (xs := ns.map V.int) (fun i σ H2 => ∃ (f : Int) (v : Option V), σ = [some (.ref a), some (.int k), some (.int f), v] ∧ 0 ≤ f ∧ f < 2147483647 ∧ H2 = H)
      ⟨k, none, rfl, k0, k1, rfl⟩ (fun i σ H2 _ ⟨_, _, _, _, _, e⟩ => e ▸ hS) ?_ ?_⟩
    · rintro i y σ H2 hi ⟨f, v, rfl, f0, f1, rfl⟩
      obtain ⟨z, rfl⟩ : ∃ z, y = V.int z := ints_at hi
      refine ⟨_, rfl, _, _, rfl, rfl, .inl ⟨by omega, by omega⟩, _, rfl, _, rfl, _, _, rfl, rfl, _, _, rfl, rfl, (by show (2147483647 : Int) ≠ 0; decide), ?_⟩
      refine ⟨_, _, rfl, ?_, ?_, rfl⟩
      · rw [Int.fmod_eq_emod_of_nonneg _ (by decide)]
        exact Int.emod_nonneg _ (by decide)
      · rw [Int.fmod_eq_emod_of_nonneg _ (by decide)]
        exact Int.emod_lt_of_pos _ (by decide)
    · rintro σ H2 ⟨f, v, rfl, f0, f1, rfl⟩
      refine ⟨_, rfl, (by show 2 ≤ sizeLine; decide), fun l1 n1 => ?_⟩
      have s1 : Same H2 (upd H2 l1 (.lst [.int f, .int 0])) := same_new n1
      refine ⟨_, rfl, a, rfl, ⟨_, s1.seq hS⟩, fun D1 nD => ?_⟩
      have s2 : Same (upd H2 l1 (.lst [.int f, .int 0])) (upd (upd H2 l1 (.lst [.int f, .int 0])) D1 (.lst [])) := same_new nD
      obtain ⟨dl, nD2⟩ := none_upd nD
      refine lc_list (K := K) (a := a) (xs := ns.map V.int) (fun i H3 => ∃ ys : List Int, ys.length ≤ i ∧ Kp D1 (upd H2 l1 (.lst [.int f, .int 0])) H3 ∧ H3 D1 = some (.lst (ys.map V.int)))
        ⟨[], Nat.le_refl _, Kp.put _ _ _, upd_same⟩ (fun i H3 _ ⟨ys, _, kp, _⟩ => ?_) ?_ ?_
      · exact seq_keep (fun b o n e => kp b o (fun z => by rw [z, nD] at e; cases e) e) (s1.seq hS)
      · rintro i y H3 hi ⟨ys, hl, kp, e3⟩
        obtain ⟨z, rfl⟩ : ∃ z, y = V.int z := ints_at hi
        have hi' := (List.getElem?_eq_some_iff.mp hi).1
        rw [List.length_map] at hi'
        refine ⟨rfl, _, rfl, _, _, rfl, rfl, ⟨by decide, by decide, by decide⟩, _, _, rfl, rfl, _, rfl, ite2 (fun _ => ?_) (fun _ => ?_)⟩
        · refine ⟨_, rfl, _, e3, ?_, ys ++ [z], ?_, kp.trans (Kp.put _ _ _), ?_⟩
          · rw [List.length_map]
            exact small1000 (by omega)
          · simp
            omega
          · rw [upd_same]
            simp
        · exact ⟨ys, by omega, kp, e3⟩
      · rintro H3 ⟨ys, hl, kp, e3⟩
        rw [List.length_map] at hl
        have eL : H3 l1 = some (.lst [.int f, .int 0]) := kp l1 _ (fun z => dl z.symm) upd_same
        refine ⟨l1, D1, _, _, rfl, rfl, eL, e3, ?_, fun p np => ?_⟩
        · rw [sizeLine_eq]
          simp
          omega
        · have s3 : Same H2 H3 := fun b o e => kp b o (fun z => by rw [z, nD2] at e; cases e) (s1 b o e)
          refine q _ p (s3.trans (same_new np)) (s3.free np) ⟨_, upd_same, f :: 0 :: ys, rfl, by simp⟩
end
end DR

set_option Elab.async false
set_option linter.all false
set_option maxRecDepth 100000
set_option maxHeartbeats 4000000
namespace DR
open PySem PySem.Spec PyProof.Rows L2
section
variable {P : Program} {w : World} {K : PySem.W.Frag} {mg : Str → Option Value} {base : Heap}
/-! ### a draw -/
def spOff : Sp := fun vs H Q _ => ∃ (d : Addr) (m : Int) (o : HO), vs = [.ref d, .int m] ∧ H d = some o ∧ Dice o ∧ 0 < m ∧ m < 1073741824 ∧ ∀ r o', 0 ≤ r → r < m → Dice o' → Q (.int r) (upd H d o')
theorem scOff : FnScope ["_law_d", "_law_most", "_law_found"] ["_law_d", "_law_most"] (defScope s__law_off) := ⟨rfl, rfl, rfl, by decide +kernel, rfl, by decide +kernel, by decide +kernel⟩
theorem dice_cons (x y : Int) (r : List Int) : Dice (.lst ((x :: y :: r).map V.int)) := ⟨_, rfl, by simp⟩
theorem has_off (D : IsDef K mg "_law_off" s__law_off) (B : Blt mg) : Has P w K mg base 1 "_law_off" ["_law_d", "_law_most"] spOff := by
  refine has_of D scOff (fun _ _ _ _ _ _ us hl => match us, hl with | [_, _], _ => rfl) (fun vs H Q E h => ?_) (fun f cdv A outer s H vs Q E hr h => ?_)
  · obtain ⟨d, m, o, rfl, _⟩ := h
    rfl
  · obtain ⟨d, m, o, rfl, hd, ⟨xs, rfl, hx⟩, m0, m1, q⟩ := h
    obtain ⟨x, y, r, rfl⟩ : ∃ x y r, xs = x :: y :: r := match xs, hx with
      | x :: y :: r, _ => ⟨x, y, r, rfl⟩
    refine ⟨_, C8.pss_cut (ps_if (PW.pt (pw_and (pt_cmpR op_eq (pe_ix ix_list (pv 0) pe_int (fun _ _ => rfl)) pe_int (nomark _)) (pw_and1 (pt_cmpR op_gt (pe_callB call_len_seq (by rfl) B.len PySem.boot_len (pa_cons (pv 0) pa_nil)) pe_int (nomark _)))))
        (pss_one (ps_asg (pe_bm PySem.F.plainAttrs_list PySem.F.slot_list_pop PySem.F.type_list_pop mt_popAt (pv 0) (pa_cons pe_int pa_nil)) (pg_sub (pv 0) pe_int set_list))) pss_nil)
      (pss_cons (ps_if (pt_cmpR op_gt (pe_ix ix_list (pv 0) pe_int (fun _ _ => rfl)) pe_int (nomark _))
        (pss_cons (ps_set (i := 2) scOff.nd rfl (.inl rfl) (pe_op op_modN (pe_ix ix_list (pv 0) pe_int (fun _ _ => rfl)) (pv 1)))
        (pss_cons (ps_asg (pe_op op_fdivN (pe_ix ix_list (pv 0) pe_int (fun _ _ => rfl)) (pv 1)) (pg_sub (pv 0) pe_int set_list))
        (pss_one (ps_ret (pv 2))))) pss_nil)
      (pss_cons (ps_asg (pe_op op_modN (pe_op op_add (pe_op op_mul (pe_ix ix_list (pv 0) pe_int (fun _ _ => rfl)) pe_int) pe_int) pe_int) (pg_sub (pv 0) pe_int set_list))
      (pss_one (ps_ret (pe_op op_modN (pe_op op_fdivN (pe_ix ix_list (pv 0) pe_int (fun _ _ => rfl)) pe_int) (pv 1)))))), ?_⟩
    refine ⟨fun σ H' => ∃ (x y : Int) (r : List Int) (o : HO), σ = [some (.ref d), some (.int m), none] ∧ H' = upd H d o ∧ o = .lst ((x :: y :: r).map V.int), ?_, ?_⟩
    · refine ⟨_, rfl, _, _, _, _, rfl, rfl, SqL.of hd, atI_nat (j := 1) rfl, rfl, _, rfl, ite2 (fun ey => ?_) (fun _ => ⟨x, y, r, _, rfl, (upd_self hd).symm, rfl⟩)⟩
      have ey : y = 0 := V.int.inj (of_decide_eq_true ey)
      refine ⟨_, rfl, _, _, rfl, .inl (SqL.of hd), _, _, rfl, rfl, _, rfl, ite2 (fun el => ?_) (fun _ => ⟨x, y, r, _, rfl, (upd_self hd).symm, rfl⟩)⟩
      obtain ⟨z, r', rfl⟩ : ∃ z r', r = z :: r' := match r, el with
        | z :: r', _ => ⟨z, r', rfl⟩
        | [], el => by simp at el
      refine ⟨_, rfl, .inl ⟨rfl, _, SqL.of hd⟩, d, _, 2, 2, .int z, rfl, rfl, hd, by decide, by decide, by simp [seqIndex?]; omega, rfl, _, rfl, d, _, 1, 1, rfl, rfl, upd_same, by simp [ixN]; omega, ?_⟩
      exact ⟨x, z, r', _, rfl, upd_upd, rfl⟩
    · rintro σ H' ⟨x, y, r, o, rfl, rfl, rfl⟩
      have hd : upd H d (.lst ((x :: y :: r).map V.int)) d = some (.lst ((x :: y :: r).map V.int)) := upd_same
      refine ⟨_, rfl, _, _, _, _, rfl, rfl, SqL.of hd, atI_nat (j := 1) rfl, _, _, rfl, rfl, _, rfl, ite2 (fun ey => ?_) (fun _ => ?_)⟩
      · refine ⟨_, rfl, _, _, _, _, rfl, rfl, SqL.of hd, atI_nat (j := 1) rfl, _, rfl, _, _, rfl, rfl, (show m ≠ 0 by omega), ?_⟩
        refine ⟨_, rfl, _, _, _, _, rfl, rfl, SqL.of hd, atI_nat (j := 1) rfl, _, rfl, _, _, rfl, rfl, ⟨by omega, by omega⟩, _, rfl, d, _, 1, 1, rfl, rfl, hd, by simp [ixN]; omega, ?_⟩
        refine ⟨_, rfl, ?_⟩
        rw [upd_upd]
        exact q _ _ (fmod_in m0).1 (fmod_in m0).2 (dice_cons x (y.fdiv m) r)
      · refine ⟨_, rfl, _, _, _, _, rfl, rfl, SqL.of hd, atI_nat (j := 0) rfl, _, _, rfl, rfl, .inr ⟨by decide, by decide⟩, _, _, rfl, rfl, _, _, rfl, rfl, (by show (2147483647 : Int) ≠ 0; decide), _, rfl, d, _, 0, 0, rfl, rfl, hd, by simp [ixN]; omega, ?_⟩
        refine ⟨_, rfl, _, _, _, _, rfl, rfl, SqL.of upd_same, atI_nat (j := 0) rfl, _, _, rfl, rfl, ⟨by decide, by decide⟩, _, rfl, _, _, rfl, rfl, (show m ≠ 0 by omega), ?_⟩
        rw [upd_upd]
        exact q _ _ (fmod_in m0).1 (fmod_in m0).2 (dice_cons _ y r)
end
end DR

set_option Elab.async false
set_option linter.all false
set_option maxRecDepth 100000
set_option maxHeartbeats 4000000
namespace DR
open PySem PySem.Spec PyProof.Rows L2
section
variable {X : Cx}
/-- xs != [], xs == [] -/
def rNeNil (K : PySem.W.Frag) : R2 := fun x y H Q => ∃ p q xs, x = .ref p ∧ y = .ref q ∧ SqL K H p xs ∧ H q = some (.lst []) ∧ Q (.bl (!xs.isEmpty)) H
theorem op_ne_nil (hu : X.A.units < cLine) : OpR X (compareOp .NotEq) (rNeNil X.K) := by
  intro pins s σ H x y v u Q I rx ry h
  obtain ⟨p, q, xs, rfl, rfl, hp, hq, k⟩ := h
  cases rx
  cases ry
  obtain ⟨its, r, pl, hz⟩ := I.list hp
  obtain ⟨its2, r2, pl2, hz2⟩ := I.list (SqL.of (K := X.K) hq)
  cases r2
  have hl := r.length
  cases xs with
  | nil =>
    cases r
    exact (SeqAt.RcNeAt.lists (e := fun _ => true) pl.isList pl2.isList rfl hu (fun j h1 _ => absurd h1 (by simp))) X.prog X.w _ _ ⟨.bl _, H, I, rfl, k⟩
  | cons z zs =>
    have hne : (its.toArray.size != ([] : List Value).toArray.size) = true := by
      rw [List.length_cons] at hl
      simp
      intro e
      rw [e] at hl
      simp at hl
    exact (SeqAt.RcNeAt.lists_lengths pl.isList pl2.isList hne hu) X.prog X.w _ _ ⟨.bl _, H, I, rfl, k⟩
end
section
variable {P : Program} {w : World} {K : PySem.W.Frag} {mg : Str → Option Value} {base : Heap}
/-! ### a list in a drawn order -/
def spMixed (K : PySem.W.Frag) : Sp := fun vs H Q _ => ∃ (d l : Addr) (xs : List V), vs = [.ref d, .ref l] ∧ DiceAt H d ∧ SqL K H l xs ∧ xs.length ≤ 1000 ∧
  ∀ H' p ys, ys.Perm xs → Kp d H H' → DiceAt H' d → H p = none → H' p = some (.lst ys) → Q (.ref p) H'
theorem scMixed : FnScope ["_law_d", "_law_row", "_law_left", "_law_found"] ["_law_d", "_law_row"] (defScope s__law_mixed) := ⟨rfl, rfl, rfl, by decide +kernel, rfl, by decide +kernel, by decide +kernel⟩
theorem seqIx {i : Int} {n : Nat} (h0 : 0 ≤ i) (h1 : i < n) : seqIndex? i n = some i.toNat := by
  unfold seqIndex?
  simp [show ¬ i < 0 by omega, h0, h1]
theorem perm_erase {xs : List V} {k : Nat} {y : V} (h : xs[k]? = some y) : (y :: xs.eraseIdx k).Perm xs := by
  induction xs generalizing k with
  | nil => simp at h
  | cons x r ih =>
    cases k with
    | zero =>
      simp at h
      subst h
      simp
    | succ k =>
      simp at h
      simp only [List.eraseIdx_cons_succ]
      exact (List.Perm.swap x y _).trans ((ih h).cons x)
theorem has_mixed (D : IsDef K mg "_law_mixed" s__law_mixed) (B : Blt mg) (O : Has P w K mg base 1 "_law_off" ["_law_d", "_law_most"] spOff) : Has P w K mg base 2 "_law_mixed" ["_law_d", "_law_row"] (spMixed K) := by
  refine has_of D scMixed (fun _ _ _ _ _ _ us hl => match us, hl with | [_, _], _ => rfl) (fun vs H Q E h => ?_) (fun f cdv A outer s H vs Q E hr h => ?_)
  · obtain ⟨d, l, xs, rfl, _⟩ := h
    rfl
  · obtain ⟨d, l, xs, rfl, hd, hl, hx, q⟩ := h
    refine ⟨_, pss_cons (ps_set (i := 2) scMixed.nd rfl (.inl rfl) (pe_callTy call_list_of (by rfl) B.list (by decide +kernel) (pa_cons (pv 1) pa_nil)))
      (pss_cons (ps_set (i := 3) scMixed.nd rfl (.inl rfl) (pe_lst pa_nil))
      (pss_cons (ps_while PassesOwn.never (pt_cmpR (op_ne_nil hr.units0) (pv 2) (pe_lst pa_nil) (nomark _))
        (pss_one (ps_expr (pe_bm PySem.F.plainAttrs_list PySem.F.slot_list_append PySem.F.type_list_append mt_append (pv 3) (pa_cons
          (pe_bm PySem.F.plainAttrs_list PySem.F.slot_list_pop PySem.F.type_list_pop mt_popAt (pv 2) (pa_cons
            (pe_has O hr (by decide) (by rfl) (pa_cons (pv 0) (pa_cons (pe_callB call_len_seq (by rfl) B.len PySem.boot_len (pa_cons (pv 2) pa_nil)) pa_nil))) pa_nil)) pa_nil)))))
      (pss_one (ps_ret (pv 3))))), ?_⟩
    refine ⟨_, rfl, l, xs, rfl, .inl hl, fun p np => ?_⟩
    refine ⟨by show 0 ≤ sizeLine; decide, fun g ng => ?_⟩
    have gp : g ≠ p := (none_upd ng).1
    have ng0 : H g = none := (none_upd ng).2
    obtain ⟨o0, hd0, do0⟩ := hd
    have dp : d ≠ p := ne_of_none hd0 np
    have dg : d ≠ g := ne_of_none hd0 ng0
    refine ⟨fun m σ H2 => ∃ left ys : List V, m = left.length ∧ σ = [some (.ref d), some (.ref l), some (.ref p), some (.ref g)] ∧ Kp d H H2 ∧ DiceAt H2 d ∧ H2 p = some (.lst left) ∧ H2 g = some (.lst ys) ∧ (ys ++ left).Perm xs,
      ⟨xs.length, xs, [], rfl, rfl, fun b o _ e => same_new ng b o (same_new np b o e), ⟨o0, ?_, do0⟩, ?_, upd_same, ?_⟩, ?_⟩
    · rw [upd_ne dg, upd_ne dp]
      exact hd0
    · rw [upd_ne gp.symm, upd_same]
    · simp
    · rintro m σ H2 ⟨left, ys, rfl, rfl, kp, ⟨o, ho, doo⟩, eL, eG, pm⟩
      refine ⟨_, rfl, by show 0 ≤ sizeLine; decide, fun z nz => ?_⟩
      have dz : d ≠ z := ne_of_none ho nz
      have pz : p ≠ z := ne_of_none eL nz
      have gz : g ≠ z := ne_of_none eG nz
      refine ⟨p, z, left, rfl, rfl, SqL.of ((upd_ne pz).trans eL), upd_same, _, rfl, ?_⟩
      have hlen := pm.length_eq
      rw [List.length_append] at hlen
      cases left with
      | nil =>
        refine iteF ?_
        refine ⟨_, rfl, q _ g ys (by simpa using pm) (kp.trans (Same.kp (same_new nz) d)) ⟨o, (upd_ne dz).trans ho, doo⟩ ng0 ((upd_ne gz).trans eG)⟩
      | cons x r =>
        refine iteT ⟨_, fun σ' H' h => h, ?_⟩
        refine ⟨_, rfl, .inl ⟨rfl, _, SqL.of ((upd_ne gz).trans eG)⟩, _, rfl, .inl ⟨rfl, _, SqL.of ((upd_ne pz).trans eL)⟩, _, rfl, _, rfl, _, _, rfl, .inl (SqL.of ((upd_ne pz).trans eL)), ?_⟩
        refine ⟨d, _, o, rfl, (upd_ne dz).trans ho, doo, ?_, ?_, fun i o' i0 i1 do' => ?_⟩
        · simp
        · rw [List.length_cons] at hlen ⊢
          omega
        have hi : i.toNat < (x :: r).length := by omega
        have ep : (upd (upd H2 z (.lst [])) d o') p = some (.lst (x :: r)) := by
          rw [upd_ne dp.symm, upd_ne pz]
          exact eL
        have eg : (upd (upd H2 z (.lst [])) d o') g = some (.lst ys) := by
          rw [upd_ne dg.symm, upd_ne gz]
          exact eG
        refine ⟨p, x :: r, i, i.toNat, (x :: r)[i.toNat], rfl, rfl, ep, by omega, by rw [List.length_cons] at hlen i1; omega, seqIx i0 i1, List.getElem?_eq_getElem hi, ?_⟩
        refine ⟨g, ys, (x :: r)[i.toNat], rfl, rfl, ?_, ?_, ?_⟩
        · rw [upd_ne gp]
          exact eg
        · exact small1000 (by omega)
        have er : ((x :: r).eraseIdx i.toNat).length + 1 = (x :: r).length := by
          rw [List.length_eraseIdx_of_lt hi, List.length_cons]
          simp
        refine ⟨((x :: r).eraseIdx i.toNat).length, by omega, (x :: r).eraseIdx i.toNat, ys ++ [(x :: r)[i.toNat]], rfl, rfl, fun b u nb e => ?_, ⟨o', ?_, do'⟩, ?_, upd_same, ?_⟩
        · have bp : b ≠ p := ne_of_none e np
          have bg : b ≠ g := ne_of_none e ng0
          rw [upd_ne bg, upd_ne bp, upd_ne nb]
          exact same_new nz b u (kp b u nb e)
        · rw [upd_ne dg, upd_ne dp, upd_same]
        · rw [upd_ne gp.symm, upd_same]
        · rw [List.append_assoc]
          exact ((perm_erase (List.getElem?_eq_getElem hi)).append_left ys).trans pm
end
end DR

set_option Elab.async false
set_option linter.all false
set_option maxRecDepth 100000
set_option maxHeartbeats 4000000
namespace DR
open PySem PySem.Spec PyProof.Rows L2
theorem DiceAt.ne {H : Hp} {d l : Addr} {as : List Addr} (h : DiceAt H d) (e : H l = some (.lst (as.map V.ref))) : l ≠ d := by
  rintro rfl
  obtain ⟨o, h1, xs, rfl, h2⟩ := h
  rw [e] at h1
  have q : as.map V.ref = xs.map V.int := by
    injection h1 with h1
    injection h1
  cases xs with
  | nil => simp at h2
  | cons x r =>
    cases as with
    | nil => cases q
    | cons a s =>
      injection q with q1 _
      cases q1
theorem DiceAt.some {H : Hp} {d : Addr} (h : DiceAt H d) : H d ≠ none := by
  obtain ⟨o, h1, _⟩ := h
  rw [h1]
  intro z
  cases z
theorem Kp.free {H H' : Hp} {d l : Addr} (k : Kp d H H') (hd : DiceAt H' d) (h : H' l = none) : H l = none := by
  have n : l ≠ d := fun z => hd.some (z ▸ h)
  cases e : H l with
  | none => rfl
  | some o =>
    rw [k l o n e] at h
    cases h
theorem Kp.new {H H' : Hp} {d p : Addr} {o : HO} (k : Kp d H H') (h : H' p = none) : Kp d H (upd H' p o) := k.trans (Same.kp (same_new h) d)
theorem DiceAt.new {H : Hp} {d p : Addr} {o : HO} (h : DiceAt H d) (hp : H p = none) : DiceAt (upd H p o) d := by
  obtain ⟨u, h1, h2⟩ := h
  exact ⟨u, (upd_ne (ne_of_none h1 hp)).trans h1, h2⟩
theorem DiceAt.lst {H : Hp} {d p : Addr} {o : HO} (h : DiceAt H d) (hp : p ≠ d) : DiceAt (upd H p o) d := by
  obtain ⟨u, h1, h2⟩ := h
  exact ⟨u, (upd_ne (Ne.symm hp)).trans h1, h2⟩
theorem Kp.wr {H H' : Hp} {d p : Addr} {o : HO} (k : Kp d H H') (h : H p = none) : Kp d H (upd H' p o) := fun b u n e => by
  rw [upd_ne (ne_of_none e h)]
  exact k b u n e
theorem atI_int {xs : List V} (cs : List Int) (e : xs = cs.map V.int) {i : Int} (h0 : 0 ≤ i) (h1 : i < cs.length) : ∃ c ∈ cs, atI xs i = some (.int c) := by
  subst e
  obtain ⟨v, hm, hv⟩ := atI_any (xs := cs.map V.int) h0 (by rw [List.length_map]; exact h1)
  obtain ⟨c, hc, rfl⟩ := List.mem_map.mp hm
  exact ⟨c, hc, hv⟩
/-- some of the pairs of a list, by a test that may draw -/
theorem lc_pick {K : PySem.W.Frag} {l d D : Addr} {as : List Addr} {ps : List (Int × Int)} {H0 : Hp} {σ : L2.St} {i : Nat} {tt : TT} {Qd : Hp → Prop} (hl : H0 l = some (.lst (as.map V.ref))) (ta : TupsAt H0 as ps) (hd : DiceAt H0 d) (nD : H0 D = none) (len : as.length ≤ 1000) (hi : i < σ.length)
    (test : ∀ a p H (R : Bool → Hp → Prop), p ∈ ps → H a = some (.tup [.int p.1, .int p.2]) → Kp d H0 H → DiceAt H d → (∀ b H', Kp d H H' → DiceAt H' d → R b H') → tt ((σ.set i none).set i (some (.ref a))) H R)
    (fin : ∀ H bs qs, Kp d H0 H → DiceAt H d → H D = some (.lst (bs.map V.ref)) → TupsAt H bs qs → qs.Sublist ps → Qd H) :
    ∃ W : Nat → Nat → Hp → Prop, (∃ m, W 0 m (upd H0 D (.lst []))) ∧ ∀ j m H, W j m H →
      ((Itl K l).stop j H ∧ Qd H) ∨ ((Itl K l).go j H ∧ ∃ Nx : Hp → Prop, (∀ H', Nx H' → ∃ m', m' < m ∧ W (j + 1) m' H') ∧ ∀ x H', (Itl K l).yld j H x H' → gName i x (wipe σ [i]) H' fun σ2 H2 => wipe σ2 [i] = wipe σ [i] ∧ tt σ2 H2 fun b H3 =>
        if b = true then tVar i σ2 H3 fun y H4 => ∃ acc, H4 D = some (.lst acc) ∧ acc.length < sizeLine ∧ Nx (upd H4 D (.lst (acc ++ [y]))) else Nx H3) := by
  have ld := hd.ne hl
  have dD : D ≠ d := fun z => hd.some (z ▸ nD)
  have lD : l ≠ D := ne_of_none hl nD
  refine lc_list (K := K) (a := l) (xs := as.map V.ref) (g := gName i) (tt := tt) (te := tVar i) (vs := [i]) (σ := σ) (Pv := fun j H => ∃ bs qs, Kp d H0 H ∧ DiceAt H d ∧ H D = some (.lst (bs.map V.ref)) ∧ TupsAt H bs qs ∧ qs.Sublist (ps.take j) ∧ bs.length ≤ j)
    ⟨[], [], (Kp.refl d H0).new nD, hd.new nD, upd_same, .nil, List.nil_sublist _, Nat.le_refl _⟩ (fun j H _ ⟨_, _, kp, _⟩ => SqL.of (kp l _ ld hl)) (fun j x H hx ⟨bs, qs, kp, hd', eD, tb, sb, lb⟩ => ?_) (fun H ⟨bs, qs, kp, hd', eD, tb, sb, lb⟩ => fin H bs qs kp hd' eD tb (sb.trans (List.take_sublist _ _)))
  obtain ⟨a, rfl, ha⟩ := refs_at' hx
  obtain ⟨p, hp, ea⟩ := ta.at_ ha
  have hj : j < as.length := (List.getElem?_eq_some_iff.mp ha).1
  have ad : a ≠ d := fun z => by
    obtain ⟨o, h1, xs, rfl, h2⟩ := hd
    rw [z, h1] at ea
    injection ea with ea
    cases ea
  have ea' : H a = some (.tup [.int p.1, .int p.2]) := kp a _ ad ea
  have tk : ps.take (j + 1) = ps.take j ++ [p] := by
    rw [List.take_succ, hp]
    rfl
  refine ⟨by simp [wipe, List.set_set], test a p H _ (List.mem_of_getElem? hp) ea' kp hd' fun b H' k2 hd2 => ?_⟩
  have eD' := k2 D _ dD eD
  have tb' : TupsAt H' bs qs := tb.keep fun c ys e => k2 c _ (fun z => by
    obtain ⟨o, h1, xs, rfl, h2⟩ := hd'
    rw [z, h1] at e
    injection e with e
    cases e) e
  cases b with
  | false =>
    refine iteF ⟨bs, qs, kp.trans k2, hd2, eD', tb', ?_, by omega⟩
    rw [tk]
    exact sb.trans (List.sublist_append_left _ _)
  | true =>
    refine iteT ⟨.ref a, (show ((σ.set i none).set i (some (V.ref a)))[i]? = some (some (V.ref a)) from List.getElem?_set_self (by rw [List.length_set]; exact hi)), _, eD', ?_, bs ++ [a], qs ++ [p], (kp.trans k2).wr nD, hd2.lst dD, ?_, ?_, ?_, ?_⟩
    · rw [List.length_map]
      exact small1000 (by omega)
    · rw [upd_same]
      simp
    · exact TupsAt.lst (TupsAt.append tb' (.cons (k2 a _ ad ea') .nil)) eD'
    · rw [tk]
      exact List.Sublist.append sb (List.Sublist.refl _)
    · simp
      omega
end DR

set_option Elab.async false
set_option linter.all false
set_option maxRecDepth 100000
set_option maxHeartbeats 4000000
namespace DR
open PySem PySem.Spec PyProof.Rows L2
section
variable {X : Cx} {a b c d : Expr} {ta tb tc td : TE} {pos : Pos}
/-- a op b op c op d -/
def tChain3 (r r' r'' : R2) (ta tb tc td : TE) : TT := fun σ H Q => ta σ H fun x H1 => tb σ H1 fun y H2 => r x y H2 fun z H3 => ∃ k, z = .bl k ∧ if k = true then (tc σ H3 fun u H4 => r' y u H4 fun z2 H5 => ∃ k2, z2 = .bl k2 ∧
  if k2 = true then (td σ H5 fun v H6 => r'' u v H6 fun z3 H7 => ∃ k3, z3 = .bl k3 ∧ Q k3 H7) else Q false H5) else Q false H3
theorem pt_chain3 {op op' op'' : CmpOp} {r r' r'' : R2} (ho : OpR X (compareOp op) r) (ho' : OpR X (compareOp op') r') (ho'' : OpR X (compareOp op'') r'') (ha : PE X a ta) (hb : PE X b tb) (hc : PE X c tc) (hd : PE X d td)
    (hm : lastMarks [op, op', op''] [b, c, d] = false := by with_unfolding_all rfl) : PT X (.Compare a [op, op', op''] [b, c, d] pos) (tChain3 r r' r'' ta tb tc td) := by
  refine ⟨fun pins s σ H Q I h => ?_⟩
  refine isTrue_chain (thn (ha.run pins s σ H _ I h) fun v s1 ⟨x, H1, I1, r1, q1⟩ => test_link (thn (hb.run pins s1 σ H1 _ I1 q1) fun u s2 ⟨y, H2, I2, r2, q2⟩ =>
    thn (ho pins s2 σ H2 x y v u _ I2 r1 r2 q2) fun e1 s3 ⟨z, H3, I3, r3, k, e, q3⟩ => ?_)) hm
  subst e
  cases r3
  refine wpAny_truthy_bool ?_
  cases k with
  | false => exact ite_ff ⟨H3, I3, q3⟩
  | true =>
    refine ite_tt (test_link (thn (hc.run pins s3 σ H3 _ I3 q3) fun u' s4 ⟨y', H4, I4, r4, q4⟩ => thn (ho' pins s4 σ H4 y y' u u' _ I4 r2 r4 q4) fun e2 s5 ⟨z2, H5, I5, r5, k2, eq2, q5⟩ => ?_))
    subst eq2
    cases r5
    refine wpAny_truthy_bool ?_
    cases k2 with
    | false => exact ite_ff ⟨H5, I5, q5⟩
    | true =>
      refine ite_tt (test_last (thn (hd.run pins s5 σ H5 _ I5 q5) fun w' s6 ⟨z', H6, I6, r6, q6⟩ => thn (ho'' pins s6 σ H6 y' z' u' w' _ I6 r4 r6 q6) fun d' s7 ⟨z3, H7, I7, r7, k3, e3, q7⟩ => ?_))
      subst e3
      cases r7
      exact wpAny_truthy_bool ⟨H7, I7, q7⟩
end
section
variable {P : Program} {w : World} {K : PySem.W.Frag} {mg : Str → Option Value} {base : Heap}
/-! ### check_yard of ties that can be -/
def spCheck : Sp := fun vs H Q _ => ∃ (n : Nat) (tl : Addr) (ps : List (Int × Int)), vs = [.int (n : Int), .ref tl] ∧ PairsAt H tl ps ∧ Ties n ps ∧ 1 ≤ n ∧ n ≤ 30 ∧ ∀ H', Same H H' → Q .non H'
abbrev nCheck : List Str := ["many", "ties", "ahead", "at", "one", "other"]
theorem scCheck : FnScope nCheck ["many", "ties"] (defScope s_check_yard) := ⟨rfl, rfl, rfl, by decide +kernel, rfl, by decide +kernel, by decide +kernel⟩
theorem has_check {t : Tok} (D : IsDef K mg "check_yard" s_check_yard) (B : Blt mg) (gM : mg "MOST_PLACES" = some (.int 30 t)) : Has P w K mg base 1 "check_yard" ["many", "ties"] spCheck := by
  refine has_of D scCheck (fun _ _ _ _ _ _ us hl => match us, hl with | [_, _], _ => rfl) (fun vs H Q E h => ?_) (fun f cdv A outer s H vs Q E hr h => ?_)
  · obtain ⟨n, tl, ps, rfl, _⟩ := h
    rfl
  · obtain ⟨n, tl, ps, rfl, ⟨as, el, ta⟩, ti, n1, n30, q⟩ := h
    have hu : ∀ {B : Around}, B.units = (A.deeper (envOfC "check_yard" (defScope s_check_yard) s.heap.objs.size f cdv)).units → B.units + 2 < cLine := fun e => by
      have := hr.units
      omega
    refine ⟨_, pss_cons (ps_if (pt_not (pt_chain op_le op_le pe_int (pv 0) (pe_glob (v := .int 30) rfl gM ⟨_, rfl⟩))) pss_never pss_nil)
      (pss_cons (ps_set (i := 2) scCheck.nd rfl (.inl rfl) (pe_callTy0 cr_setNew (by rfl) B.set (by decide +kernel)))
      (pss_one (ps_for PassesOwn.never rfl (pi_enum (by rfl) B.enumerate (pa_cons (pv 1) pa_nil)) (pg_tup rfl (pgs_cons (pg_name (i := 3) scCheck.nd rfl (.inl rfl)) (pgs_cons (pg_tup rfl (pgs_cons (pg_name (i := 4) scCheck.nd rfl (.inl rfl)) (pgs_cons (pg_name (i := 5) scCheck.nd rfl (.inl rfl)) pgs_nil))) pgs_nil)))
        (pss_cons (ps_if (pt_not (pt_chain3 op_le op_lt op_lt pe_int (pv 4) (pv 5) (pv 0))) pss_never pss_nil)
        (pss_cons (ps_if (pt_cmpR (or_gin (hu_of hr)) (pe_tup (pa_cons (pv 4) (pa_cons (pv 5) pa_nil))) (pv 2) (by with_unfolding_all rfl)) pss_never pss_nil)
        (pss_one (ps_expr (pe_gadd (hu rfl) (pv 2) (pa_cons (pe_tup (pa_cons (pv 4) (pa_cons (pv 5) pa_nil))) pa_nil))))))))), ?_⟩
    have hp900 := ti.len900 n30
    refine ⟨_, rfl, _, _, rfl, rfl, _, rfl, iteD (by omega) ?_⟩
    refine ⟨_, _, rfl, rfl, _, rfl, iteNS (show (n : Int) ≤ 30 by omega) ?_⟩
    refine ⟨rfl, fun S nS => ?_⟩
    have s0 : Same H (upd H S (SetGO P w S [])) := same_new nS
    refine ⟨_, rfl, tl, _, rfl, SqL.of (s0 _ _ el), ?_⟩
    refine ⟨fun i m σ H2 => ∃ (L : List (Addr × List Int)) (x3 x4 x5 : Option V), σ = [some (.int (n : Int)), some (.ref tl), some (.ref S), x3, x4, x5] ∧ i + m = ps.length ∧ Kp S H H2 ∧ H2 S = some (SetGO P w S L) ∧
        (∀ q ∈ L, H2 q.1 = some (.tup (q.2.map V.int))) ∧ (∀ k ∈ L.map (·.2), ∃ p ∈ ps.take i, k = [p.1, p.2]) ∧ L.length ≤ i,
      ⟨ps.length, [], none, none, none, rfl, by omega, Kp.put _ _ _, upd_same, (by intro q hq; cases hq), (by intro q hq; cases hq), Nat.le_refl _⟩, ?_⟩
    rintro i m σ H2 ⟨L, x3, x4, x5, rfl, em, kp, eS, hL, hk, hlen⟩
    have s2 : Same H H2 := fun c o e => kp c o (ne_of_none e nS) e
    have hl := ta.length
    by_cases hi : i < ps.length
    · have ha : as[i]? = some as[i] := List.getElem?_eq_getElem (by omega)
      obtain ⟨p, hp, ea⟩ := ta.at_ ha
      generalize as[i] = a at ha ea
      have hpm := List.mem_of_getElem? hp
      have pr := ti.rng p hpm
      refine .inr ⟨⟨_, _, SqL.of (s2 _ _ el), by rw [List.getElem?_map, ha]; rfl⟩, fun σ' H' => ∃ (L : List (Addr × List Int)) (x3 x4 x5 : Option V), σ' = [some (.int (n : Int)), some (.ref tl), some (.ref S), x3, x4, x5] ∧ Kp S H H' ∧ H' S = some (SetGO P w S L) ∧
        (∀ q ∈ L, H' q.1 = some (.tup (q.2.map V.int))) ∧ (∀ k ∈ L.map (·.2), ∃ p ∈ ps.take (i + 1), k = [p.1, p.2]) ∧ L.length ≤ i + 1, fun σ' H' ⟨L, y3, y4, y5, h1, h2, h3, h4, h5, h6⟩ => ⟨m - 1, by omega, L, y3, y4, y5, h1, by omega, h2, h3, h4, h5, h6⟩, ?_⟩
      rintro v H' ⟨T, x, rfl, nT, rfl, fx⟩
      have ex : x = .ref a := by
        have z := fx _ (SqL.of (s2 _ _ el))
        rw [List.getElem?_map, ha] at z
        exact (Option.some.inj z).symm
      subst ex
      have s3 : Same H2 (upd H2 T (.tup [.int (i : Nat), .ref a])) := same_new nT
      refine ⟨T, _, rfl, SqT.of upd_same, rfl, _, _, rfl, _, _, rfl, a, _, rfl, SqT.of (s3 _ _ (s2 _ _ ea)), rfl, _, _, rfl, _, _, rfl, rfl, rfl, ?_⟩
      -- 0 <= one < other < many
      refine ⟨_, rfl, _, _, rfl, rfl, _, rfl, iteD pr.1 ?_⟩
      refine ⟨_, rfl, _, _, rfl, rfl, _, rfl, iteD pr.2.1 ?_⟩
      refine ⟨_, rfl, _, _, rfl, rfl, _, rfl, iteNS pr.2.2 ?_⟩
      -- (one, other) in ahead
      generalize upd H2 T (.tup [.int (i : Nat), .ref a]) = H3 at s3
      refine ⟨_, rfl, _, rfl, by show 2 ≤ sizeLine; decide, fun t1 nt1 => ?_⟩
      have s4 : Same H3 (upd H3 t1 (.tup [.int p.1, .int p.2])) := same_new nt1
      have fresh : [p.1, p.2] ∉ L.map (·.2) := fun z => by
        obtain ⟨p', hp', e⟩ := hk _ z
        have e1 : p = p' := by
          injection e with e1 e2
          injection e2 with e2 _
          exact Prod.ext e1 e2
        subst e1
        obtain ⟨j, hj⟩ := List.getElem?_of_mem hp'
        rw [List.getElem?_take] at hj
        split at hj
        · rename_i hji
          have := (List.getElem?_inj (show j < ps.length by omega) ti.nd).mp (hj.trans hp.symm)
          omega
        · cases hj
      refine ⟨_, rfl, t1, S, [p.1, p.2], L, rfl, rfl, s4 _ _ (s3 _ _ eS), fun q hq => SqT.of (s4 _ _ (s3 _ _ (hL q hq))), SqT.of upd_same, _, rfl, ite2 (fun z => absurd (of_decide_eq_true z) fresh) (fun _ => ?_)⟩
      -- ahead.add((one, other))
      have s5 : Same H2 (upd H3 t1 (.tup [.int p.1, .int p.2])) := s3.trans s4
      generalize upd H3 t1 (.tup [.int p.1, .int p.2]) = H4 at s5
      refine ⟨_, rfl, S, L, rfl, s5 _ _ eS, _, rfl, _, rfl, by show 2 ≤ sizeLine; decide, fun t2 nt2 => ?_⟩
      have s6 : Same H4 (upd H4 t2 (.tup [.int p.1, .int p.2])) := same_new nt2
      have s7 := s5.trans s6
      refine ⟨t2, [p.1, p.2], rfl, s7 _ _ eS, fun q hq => SqT.of (s7 _ _ (hL q hq)), SqT.of upd_same, by omega, fun L' _ c2 => ?_⟩
      have pm := c2 fresh
      have tS : ∀ {b xs}, (upd H4 t2 (.tup [.int p.1, .int p.2])) b = some (.tup xs) → b ≠ S := fun {b xs} e => ne_of e (s7 _ _ eS) (by intro z; cases z)
      refine ⟨L', _, _, _, rfl, fun c o nc e => ?_, upd_same, fun q hq => ?_, fun k hk' => ?_, ?_⟩
      · rw [upd_ne nc]
        exact s7 _ _ (kp c o nc e)
      · rcases List.mem_cons.mp (pm.mem_iff.mp hq) with e | e
        · subst e
          rw [upd_ne (tS (b := t2) upd_same)]
          exact upd_same
        · have z := s7 _ _ (hL q e)
          rw [upd_ne (tS z)]
          exact z
      · rcases List.mem_cons.mp ((pm.map (·.2)).mem_iff.mp hk') with e | e
        · exact ⟨p, by rw [List.take_succ, hp]; simp, e⟩
        · obtain ⟨p', h1, h2⟩ := hk k e
          exact ⟨p', by rw [List.take_succ]; exact List.mem_append_left _ h1, h2⟩
      · rw [pm.length_eq, List.length_cons]
        omega
    · exact .inl ⟨⟨_, SqL.of (s2 _ _ el), by rw [List.length_map]; omega⟩, q H2 s2⟩
end
end DR

set_option Elab.async false
set_option linter.all false
set_option maxRecDepth 100000
set_option maxHeartbeats 4000000
namespace DR
open PySem PySem.Spec PyProof.Rows L2
/-! ### what a Yard holds -/
def degD (n : Nat) (c : Int → Int) : List (Key × V) := (List.range n).map fun i : Nat => ((Sum.inl (i : Int) : Key), V.int (c i))
/-- how often x stands in the ties -/
def cnt (ps : List (Int × Int)) (x : Int) : Int := (ps.map fun p => (if p.1 = x then 1 else 0) + (if p.2 = x then 1 else 0)).sum
theorem cnt_snoc (ps : List (Int × Int)) (p : Int × Int) (x : Int) : cnt (ps ++ [p]) x = cnt ps x + (if p.1 = x then 1 else 0) + (if p.2 = x then 1 else 0) := by
  simp [cnt]
  omega
theorem valV_deg (n : Nat) (c : Int → Int) {x : Int} (h0 : 0 ≤ x) (h1 : x < n) : valV (degD n c) (Sum.inl x : Key) = some (.int (c x)) := by
  have key : ∀ l : List Nat, x.toNat ∈ l → valV (l.map fun i : Nat => ((Sum.inl (i : Int) : Key), V.int (c i))) (Sum.inl x : Key) = some (.int (c x)) := by
    intro l
    induction l with
    | nil => intro h; cases h
    | cons a r ih =>
      intro h
      by_cases e : (Sum.inl (a : Int) : Key) = Sum.inl x
      · have e' : (a : Int) = x := Sum.inl.inj e
        rw [List.map_cons, valV_pos e]
        rw [e']
      · rw [List.map_cons, valV_neg e]
        refine ih ?_
        rcases List.mem_cons.mp h with z | z
        · exact absurd (by rw [← z]; congr 1; omega) e
        · exact z
  exact key _ (List.mem_range.mpr (by omega))
theorem putK_deg (n : Nat) (c : Int → Int) {x : Int} (v : Int) (h0 : 0 ≤ x) (h1 : x < n) : putK (degD n c) (Sum.inl x : Key) (.int v) = degD n fun y => if y = x then v else c y := by
  have ha : (degD n c).any (fun kv => decide (kv.1 = (Sum.inl x : Key))) = true := by
    rw [valV_any, valV_deg n c h0 h1] <;> rfl
  unfold putK
  rw [if_pos ha]
  unfold degD
  rw [List.map_map]
  refine List.map_congr_left fun i _ => ?_
  by_cases e : (i : Int) = x
  · simp [e]
  · simp [e]
def yflds (n : Nat) (l td dg : Addr) : List (Str × V) := [("_many", .int (n : Int)), ("_ties", .ref l), ("_tied", .ref td), ("_degrees", .ref dg)]
theorem putF_new (f : Str) (v : V) : ∀ fs : List (Str × V), (∀ p ∈ fs, ¬ p.1 = f) → putF f v fs = fs ++ [(f, v)]
  | [], _ => rfl
  | (g, x) :: r, h => by
    show (if g = f then _ else (g, x) :: putF f v r) = _
    rw [if_neg (h _ List.mem_cons_self), putF_new f v r fun p hp => h p (List.mem_cons_of_mem _ hp)]
    rfl
theorem fl1 (n : Nat) : putF "_many" (.int (n : Int)) [] = [(("_many" : Str), V.int (n : Int))] := rfl
theorem fl2 (n : Nat) (l : Addr) : putF "_ties" (.ref l) [(("_many" : Str), V.int (n : Int))] = [(("_many" : Str), V.int (n : Int)), ("_ties", .ref l)] := putF_new _ _ _ (by
  intro p hp
  simp only [List.mem_cons, List.not_mem_nil, or_false] at hp
  subst hp
  show ¬ (("_many" : Str) = "_ties")
  decide +kernel)
theorem fl3 (n : Nat) (l td : Addr) : putF "_tied" (.ref td) [(("_many" : Str), V.int (n : Int)), ("_ties", .ref l)] = [(("_many" : Str), V.int (n : Int)), ("_ties", .ref l), ("_tied", .ref td)] := putF_new _ _ _ (by
  intro p hp
  simp only [List.mem_cons, List.not_mem_nil, or_false] at hp
  rcases hp with e | e <;> subst e
  · show ¬ (("_many" : Str) = "_tied")
    decide +kernel
  · show ¬ (("_ties" : Str) = "_tied")
    decide +kernel)
theorem fl4 (n : Nat) (l td dg : Addr) : putF "_degrees" (.ref dg) [(("_many" : Str), V.int (n : Int)), ("_ties", .ref l), ("_tied", .ref td)] = yflds n l td dg := putF_new _ _ _ (by
  intro p hp
  simp only [List.mem_cons, List.not_mem_nil, or_false] at hp
  rcases hp with e | e | e <;> subst e
  · show ¬ (("_many" : Str) = "_degrees")
    decide +kernel
  · show ¬ (("_ties" : Str) = "_degrees")
    decide +kernel
  · show ¬ (("_tied" : Str) = "_degrees")
    decide +kernel)
theorem lk_pos {f : Str} {v : V} {fs : List (Str × V)} : ((f, v) :: fs).lookup f = some v := by simp [List.lookup]
theorem lk_neg {f g : Str} {v : V} {fs : List (Str × V)} (h : ¬ g = f) : ((f, v) :: fs).lookup g = fs.lookup g := by
  have e : (g == f) = false := by simpa using h
  simp [List.lookup, e]
theorem look_yM (n : Nat) (l td dg : Addr) : (yflds n l td dg).lookup ("_many" : Str) = some (.int (n : Int)) := lk_pos
theorem look_yT (n : Nat) (l td dg : Addr) : (yflds n l td dg).lookup ("_ties" : Str) = some (.ref l) := (lk_neg (by decide +kernel)).trans lk_pos
theorem look_yD (n : Nat) (l td dg : Addr) : (yflds n l td dg).lookup ("_tied" : Str) = some (.ref td) := (lk_neg (by decide +kernel)).trans ((lk_neg (by decide +kernel)).trans lk_pos)
theorem look_yG (n : Nat) (l td dg : Addr) : (yflds n l td dg).lookup ("_degrees" : Str) = some (.ref dg) := (lk_neg (by decide +kernel)).trans ((lk_neg (by decide +kernel)).trans ((lk_neg (by decide +kernel)).trans lk_pos))
theorem look_no (n : Nat) (l td dg : Addr) {m : Str} (h1 : ¬ m = "_many") (h2 : ¬ m = "_ties") (h3 : ¬ m = "_tied") (h4 : ¬ m = "_degrees") : (yflds n l td dg).lookup m = none := (lk_neg h1).trans ((lk_neg h2).trans ((lk_neg h3).trans ((lk_neg h4).trans rfl)))
theorem _root_.L2.DGet.k' {H : Hp} {a : Addr} {kvs : List (Key × V)} {k : Int} {v : V} (e : H a = some (.dK kvs)) (h : valV kvs (Sum.inl k : Key) = some v) : DGet H a (.int k) (some v) := h ▸ DGet.k (k := Sum.inl k) e
/-- a Yard stands at y -/
def YardAt (C : Addr) (H : Hp) (y : Addr) (n : Nat) (ps : List (Int × Int)) : Prop := ∃ dx l td dg, H y = some (.ins C dx (yflds n l td dg)) ∧ PairsAt H l ps ∧ H td = some (.dT (tiedD ps)) ∧ H dg = some (.dK (degD n (cnt ps)))
theorem YardAt.same {C : Addr} {H H' : Hp} {y : Addr} {n : Nat} {ps : List (Int × Int)} (h : YardAt C H y n ps) (s : Same H H') : YardAt C H' y n ps := by
  obtain ⟨dx, l, td, dg, h1, h2, h3, h4⟩ := h
  exact ⟨dx, l, td, dg, s _ _ h1, h2.same s, s _ _ h3, s _ _ h4⟩
/-- what the text says of the class -/
structure YTxt (K : PySem.W.Frag) (mg : Str → Option Value) (C : Addr) : Prop where
  cl : Cls K C
  nM : NoAttr K C "_many"
  nT : NoAttr K C "_ties"
  nD : NoAttr K C "_tied"
  nG : NoAttr K C "_degrees"
  mgC : mg "Yard" = some (.ref C)
section
variable {P : Program} {w : World} {K : PySem.W.Frag} {mg : Str → Option Value} {base : Heap} {C : Addr}
def spInit (C : Addr) : Sp := fun vs H Q _ => ∃ (y dx tl : Addr) (n : Nat) (ps : List (Int × Int)), vs = [.ref y, .int (n : Int), .ref tl] ∧ H y = some (.ins C dx []) ∧ PairsAt H tl ps ∧ Ties n ps ∧ 1 ≤ n ∧ n ≤ 30 ∧
  ∀ H', Kp y H H' → YardAt C H' y n ps → Q .non H'
/-- the yard, its own list of ties at l -/
def YardL (C : Addr) (H : Hp) (y : Addr) (n : Nat) (ps : List (Int × Int)) (l : Addr) : Prop := ∃ dx td dg, H y = some (.ins C dx (yflds n l td dg)) ∧ PairsAt H l ps ∧ H td = some (.dT (tiedD ps)) ∧ H dg = some (.dK (degD n (cnt ps)))
def spInitF (C : Addr) : Sp := fun vs H Q _ => ∃ (y dx tl : Addr) (n : Nat) (ps : List (Int × Int)), vs = [.ref y, .int (n : Int), .ref tl] ∧ H y = some (.ins C dx []) ∧ PairsAt H tl ps ∧ Ties n ps ∧ 1 ≤ n ∧ n ≤ 30 ∧
  ∀ H' l, Kp y H H' → H l = none → YardL C H' y n ps l → Q .non H'
abbrev nInit : List Str := ["self", "many", "ties", "one", "other", "place"]
theorem scInit : FnScope nInit ["self", "many", "ties"] (defScope s_Yard_init) := ⟨rfl, rfl, rfl, by decide +kernel, rfl, by decide +kernel, by decide +kernel⟩
theorem has_initF (D : IsMeth K C "__init__" "Yard.__init__" s_Yard_init) (B : Blt mg) (T : YTxt K mg C) (CH : Has P w K mg base 1 "check_yard" ["many", "ties"] spCheck) : HasM P w K mg base C 2 "__init__" ["self", "many", "ties"] (spInitF C) := by
  refine hasM_of D scInit (fun _ _ _ _ _ _ us hl => match us, hl with | [_, _, _], _ => rfl) (fun vs H Q E h => ?_) (fun f cdv A outer s H vs Q E hr h => ?_)
  · obtain ⟨y, dx, tl, n, ps, rfl, _⟩ := h
    rfl
  · obtain ⟨y, dx, tl, n, ps, rfl, hy, pa, ti, n1, n30, q⟩ := h
    have hu := hu_of hr
    refine ⟨_, pss_cons (ps_expr (pe_has CH hr (by decide) (by rfl) (pa_cons (pv 1) (pa_cons (pv 2) pa_nil))))
      (pss_cons (ps_fld (pv 0) (pv 1) rfl)
      (pss_cons (ps_fld (pv 0) (pe_callTy call_list_of (by rfl) B.list (by decide +kernel) (pa_cons (pv 2) pa_nil)) rfl)
      (C8.pss_cut (ps_fld (pv 0) (pe_dg (own := [("one", 3), ("other", 4)]) (e0 := .dT []) (tt := tYes) (g := gTup K 2 (gCons (gName 3) (gCons (gName 4) gNil))) (.inr rfl) hr.units0 rfl scInit.nd (pi_list (pv 2)) (blkOk_by (N := nInit) (sc := defScope s_Yard_init) (by decide +kernel))
          (fun _ _ _ _ _ => by exact (pg_tup rfl (pgs_cons (by exact (pg_name (i := 3) scInit.nd rfl (.inl rfl))) (pgs_cons (by exact (pg_name (i := 4) scInit.nd rfl (.inl rfl))) pgs_nil)))) (fun _ _ _ _ _ => pts_nil) (fun _ _ _ _ _ => pe_tup (pa_cons (pv 3) (pa_cons (pv 4) pa_nil))) (fun _ _ _ _ _ => pe_bl)) rfl)
      (C8.pss_cut (ps_fld (pv 0) (pe_dg (own := [("place", 5)]) (e0 := .dK []) (tt := tYes) (.inl rfl) hr.units0 rfl scInit.nd (pi_range1 (by rfl) B.range (pa_cons (pv 1) pa_nil)) (blkOk_by (N := nInit) (sc := defScope s_Yard_init) (by decide +kernel))
          (fun _ _ _ _ _ => pg_name (i := 5) scInit.nd rfl (.inl rfl)) (fun _ _ _ _ _ => pts_nil) (fun _ _ _ _ _ => pv 5) (fun _ _ _ _ _ => pe_int)) rfl)
      (pss_one (ps_for PassesOwn.never rfl (pi_list (pv 2)) (pg_tup rfl (pgs_cons (pg_name (i := 3) scInit.nd rfl (.inl rfl)) (pgs_cons (pg_name (i := 4) scInit.nd rfl (.inl rfl)) pgs_nil)))
        (pss_cons (ps_daug hu (pe_fld (pv 0) rfl) (pv 3) pe_int in_add (fun _ _ _ => rfl)) (pss_one (ps_daug hu (pe_fld (pv 0) rfl) (pv 4) pe_int in_add (fun _ _ _ => rfl)))))))))), ?_⟩
    obtain ⟨as, el, ta⟩ := id pa
    have hp900 := ti.len900 n30
    have ty : ∀ {H' : Hp} {b : Addr} {xs : List V}, H b = some (.tup xs) → b ≠ y := fun {H' b xs} e => ne_of e hy (by intro z; cases z)
    have ly : tl ≠ y := ne_of el hy (by intro z; cases z)
    refine ⟨_, rfl, _, rfl, n, tl, ps, rfl, pa, ti, n1, n30, fun H1 s1 => ?_⟩
    -- self._many
    refine ⟨_, rfl, _, rfl, y, C, dx, [], rfl, s1 _ _ hy, T.cl, T.nM, (by show 0 < 1000; decide), ?_⟩
    rw [fl1]
    obtain ⟨H2, eH2⟩ : ∃ H2, upd H1 y (.ins C dx [(("_many" : Str), V.int (n : Int))]) = H2 := ⟨_, rfl⟩
    rw [eH2]
    have k2 : Kp y H H2 := fun b o nb e => by
      rw [← eH2, upd_ne nb]
      exact s1 b o e
    have y2 : H2 y = some (.ins C dx [(("_many" : Str), V.int (n : Int))]) := by
      rw [← eH2]
      exact upd_same
    -- self._ties
    refine ⟨_, rfl, tl, _, rfl, .inl (SqL.of (k2 _ _ ly el)), fun l nl => ?_⟩
    have s3 := same_new (o := .lst (as.map V.ref)) nl
    have nlH : H l = none := by
      cases e : H l with
      | none => rfl
      | some o =>
        by_cases c : l = y
        · rw [c, y2] at nl
          cases nl
        · rw [k2 l o c e] at nl
          cases nl
    refine ⟨_, rfl, y, C, dx, _, rfl, s3 _ _ y2, T.cl, T.nT, (by show 1 < 1000; decide), ?_⟩
    rw [fl2]
    have nly : l ≠ y := fun z => by
      rw [z, y2] at nl
      cases nl
    obtain ⟨H3, eH3⟩ : ∃ H3, upd (upd H2 l (.lst (as.map V.ref))) y (.ins C dx [(("_many" : Str), V.int (n : Int)), ("_ties", .ref l)]) = H3 := ⟨_, rfl⟩
    rw [eH3]
    have k3 : Kp y H H3 := fun b o nb e => by
      rw [← eH3, upd_ne nb]
      exact s3 b o (k2 b o nb e)
    have y3 : H3 y = some (.ins C dx [(("_many" : Str), V.int (n : Int)), ("_ties", .ref l)]) := by
      rw [← eH3]
      exact upd_same
    have l3 : H3 l = some (.lst (as.map V.ref)) := by
      rw [← eH3, upd_ne nly, upd_same]
    have ta3 : TupsAt H3 as ps := ta.keep fun b xs e => k3 b _ (ty (H' := H3) e) e
    clear eH3 s3
    -- self._tied
    refine ⟨fun σ H5 => ∃ td, σ = [some (.ref y), some (.int (n : Int)), some (.ref tl), none, none, none] ∧ Kp y H H5 ∧ H5 y = some (.ins C dx [(("_many" : Str), V.int (n : Int)), ("_ties", .ref l), ("_tied", .ref td)]) ∧ H5 l = some (.lst (as.map V.ref)) ∧ TupsAt H5 as ps ∧ H5 td = some (.dT (tiedD ps)), ?_, ?_⟩
    · refine ⟨_, rfl, tl, rfl, ⟨_, SqL.of (k3 _ _ ly el)⟩, fun D nD => ?_⟩
      refine dg_list (K := K) (a := tl) (xs := as.map V.ref) (fun j H4 => Kp D H3 H4 ∧ H4 D = some (.dT (tiedD (ps.take j)))) ⟨Kp.put _ _ _, upd_same⟩ (fun j H4 _ ⟨kp, _⟩ => SqL.of (kp _ _ (ne_of_none (k3 _ _ ly el) nD) (k3 _ _ ly el))) ?_ ?_
      · rintro j x H4 hx ⟨kp, eD⟩
        obtain ⟨a, rfl, ha⟩ := refs_at' hx
        obtain ⟨p, hp, ea⟩ := ta3.at_ ha
        have ea4 := kp _ _ (ne_of_none ea nD) ea
        refine ⟨a, _, rfl, SqT.of ea4, rfl, _, _, rfl, _, _, rfl, rfl, rfl, ?_⟩
        refine ⟨_, rfl, _, rfl, by show 2 ≤ sizeLine; decide, fun t nt => ?_⟩
        have nDt : D ≠ t := ne_of_none eD nt
        have tk : ps.take (j + 1) = ps.take j ++ [p] := by
          rw [List.take_succ, hp] <;> rfl
        have fresh : p ∉ ps.take j := fun z => by
          obtain ⟨i, hi⟩ := List.getElem?_of_mem z
          rw [List.getElem?_take] at hi
          split at hi
          · rename_i hij
            have hjl := (List.getElem?_eq_some_iff.mp hp).1
            have := (List.getElem?_inj (show i < ps.length by omega) ti.nd).mp (hi.trans hp.symm)
            omega
          · cases hi
        refine ⟨_, DPut.t (k := [Sum.inl p.1, Sum.inl p.2]) ((upd_ne nDt).trans eD) upd_same ?_, fun b o nb e => ?_, ?_⟩
        · refine small1000 ?_
          simp [tiedD]
          omega
        · rw [upd_ne nb]
          exact same_new nt b o (kp b o nb e)
        · rw [upd_same, putK_tied fresh, tk]
      · rintro H4 ⟨kp, eD⟩
        rw [List.length_map, ta.length, List.take_length] at eD
        have yD : y ≠ D := ne_of_none y3 nD
        have lD : l ≠ D := ne_of_none l3 nD
        refine ⟨_, rfl, y, C, dx, _, rfl, kp _ _ yD y3, T.cl, T.nD, (by show 2 < 1000; decide), ?_⟩
        rw [fl3]
        refine ⟨D, rfl, fun b o nb e => ?_, upd_same, ?_, ?_, ?_⟩
        · rw [upd_ne nb]
          exact kp _ _ (ne_of_none (k3 b o nb e) nD) (k3 b o nb e)
        · rw [upd_ne nly]
          exact kp _ _ lD l3
        · refine ta3.keep fun b xs e => ?_
          rw [upd_ne (ne_of e y3 (by intro z; cases z))]
          exact kp _ _ (ne_of_none e nD) e
        · rw [upd_ne (Ne.symm yD)]
          exact eD
    · rintro σ H5 ⟨td, rfl, k5, y5, l5, ta5, d5⟩
      have tdy : td ≠ y := ne_of d5 y5 (by intro z; cases z)
      have nly5 : l ≠ y := ne_of l5 y5 (by intro z; cases z)
      -- self._degrees
      refine ⟨fun σ H6 => ∃ dg, σ = [some (.ref y), some (.int (n : Int)), some (.ref tl), none, none, none] ∧ Kp y H H6 ∧ H6 y = some (.ins C dx (yflds n l td dg)) ∧ H6 l = some (.lst (as.map V.ref)) ∧ TupsAt H6 as ps ∧ H6 td = some (.dT (tiedD ps)) ∧ H6 dg = some (.dK (degD n fun _ => 0)) ∧ H dg = none, ?_, ?_⟩
      · refine ⟨_, rfl, (n : Int), rfl, by omega, by omega, fun D nD => ?_⟩
        rw [Int.toNat_natCast]
        refine dg_range (lo := 0) (n := n) (fun j H4 => Kp D H5 H4 ∧ H4 D = some (.dK (degD j fun _ => 0))) ⟨Kp.put _ _ _, upd_same⟩ ?_ ?_
        · rintro j H4 hj ⟨kp, eD⟩
          refine ⟨rfl, _, rfl, _, DPut.k (k := Sum.inl (0 + (j : Int))) eD ?_, kp.trans (Kp.put _ _ _), ?_⟩
          · refine small1000 ?_
            simp [degD]
            omega
          · rw [upd_same, Int.zero_add]
            have e : valV (degD j fun _ => 0) (Sum.inl (j : Int) : Key) = none := by
              have key : ∀ l : List Nat, (∀ i ∈ l, i < j) → valV (l.map fun i : Nat => ((Sum.inl (i : Int) : Key), V.int 0)) (Sum.inl (j : Int) : Key) = none := by
                intro l
                induction l with
                | nil => intro _; rfl
                | cons a r ih =>
                  intro h
                  rw [List.map_cons, valV_neg]
                  · exact ih fun i hi => h i (List.mem_cons_of_mem _ hi)
                  · intro z
                    have := h a List.mem_cons_self
                    have z' : (a : Int) = (j : Int) := Sum.inl.inj z
                    omega
              exact key _ fun i hi => List.mem_range.mp hi
            rw [putK_new _ e]
            unfold degD
            rw [List.range_succ, List.map_append]
            rfl
        · rintro H4 ⟨kp, eD⟩
          have yD : y ≠ D := ne_of_none y5 nD
          refine ⟨_, rfl, y, C, dx, _, rfl, kp _ _ yD y5, T.cl, T.nG, (by show 3 < 1000; decide), ?_⟩
          rw [fl4]
          have nDH : H D = none := by
            cases e : H D with
            | none => rfl
            | some o =>
              rw [k5 D o (Ne.symm yD) e] at nD
              cases nD
          refine ⟨D, rfl, fun b o nb e => ?_, upd_same, ?_, ?_, ?_, ?_, nDH⟩
          · rw [upd_ne nb]
            exact kp _ _ (ne_of_none (k5 b o nb e) nD) (k5 b o nb e)
          · rw [upd_ne nly5]
            exact kp _ _ (ne_of_none l5 nD) l5
          · refine ta5.keep fun b xs e => ?_
            rw [upd_ne (ne_of e y5 (by intro z; cases z))]
            exact kp _ _ (ne_of_none e nD) e
          · rw [upd_ne tdy]
            exact kp _ _ (ne_of_none d5 nD) d5
          · rw [upd_ne (Ne.symm yD)]
            exact eD
      · rintro σ H6 ⟨dg, rfl, k6, y6, l6, ta6, d6, g6, ndg⟩
        have gy : dg ≠ y := ne_of g6 y6 (by intro z; cases z)
        have gd : td ≠ dg := ne_of d6 g6 (by intro z; cases z)
        have gl : l ≠ dg := ne_of l6 g6 (by intro z; cases z)
        refine ⟨_, rfl, tl, rfl, ⟨_, SqL.of (k6 _ _ ly el)⟩, for_list (K := K) (a := tl) (xs := as.map V.ref) (fun i σ H7 => ∃ x3 x4, σ = [some (.ref y), some (.int (n : Int)), some (.ref tl), x3, x4, none] ∧ Kp dg H6 H7 ∧ H7 dg = some (.dK (degD n (cnt (ps.take i)))))
          ⟨none, none, rfl, Kp.refl _ _, g6⟩ (fun i σ H7 _ ⟨_, _, _, kp, _⟩ => SqL.of (kp _ _ (ne_of_none el ndg) (k6 _ _ ly el))) ?_ ?_⟩
        · rintro i x σ H7 hx ⟨x3, x4, rfl, kp, eG⟩
          obtain ⟨a, rfl, ha⟩ := refs_at' hx
          obtain ⟨p, hp, ea⟩ := ta6.at_ ha
          have ea7 := kp _ _ (ne_of ea g6 (by intro z; cases z)) ea
          have y7 := kp _ _ (Ne.symm gy) y6
          have b := ti.bound (List.mem_of_getElem? hp)
          have tk : ps.take (i + 1) = ps.take i ++ [p] := by
            rw [List.take_succ, hp] <;> rfl
          have few : ∀ c : Int → Int, (degD n c).length < sizeLine := fun c => by
            refine small1000 ?_
            simp [degD]
            omega
          refine ⟨a, _, rfl, SqT.of ea7, rfl, _, _, rfl, _, _, rfl, rfl, ?_⟩
          refine ⟨_, rfl, y, C, dx, _, _, rfl, y7, T.cl, T.nG, look_yG n l td dg, _, rfl, dg, _, rfl, DGet.k' eG (valV_deg n _ b.1 b.2.1), _, _, rfl, rfl, _, DPut.k (k := Sum.inl p.1) eG (few _), ?_⟩
          rw [putK_deg n _ _ b.1 b.2.1]
          refine ⟨_, rfl, y, C, dx, _, _, rfl, (upd_ne (Ne.symm gy)).trans y7, T.cl, T.nG, look_yG n l td dg, _, rfl, dg, _, rfl, DGet.k' upd_same (valV_deg n _ b.2.2.1 b.2.2.2), _, _, rfl, rfl, _, DPut.k (k := Sum.inl p.2) upd_same (few _), ?_⟩
          rw [putK_deg n _ _ b.2.2.1 b.2.2.2]
          refine ⟨_, _, rfl, fun c o nc e => ?_, ?_⟩
          · rw [upd_ne nc, upd_ne nc]
            exact kp c o nc e
          · rw [upd_same]
            have e : (fun z => if z = p.2 then (if p.2 = p.1 then cnt (ps.take i) p.1 + 1 else cnt (ps.take i) p.2) + 1 else if z = p.1 then cnt (ps.take i) p.1 + 1 else cnt (ps.take i) z) = cnt (ps.take (i + 1)) := by
              funext z
              rw [tk, cnt_snoc]
              by_cases e1 : z = p.1
              · by_cases e2 : z = p.2
                · subst e1
                  simp [← e2]
                · subst e1
                  simp [e2, Ne.symm e2]
              · by_cases e2 : z = p.2
                · subst e2
                  simp [e1, Ne.symm e1]
                · simp [e1, e2, Ne.symm e1, Ne.symm e2]
            rw [e]
        · rintro σ H7 ⟨x3, x4, rfl, kp, eG⟩
          rw [List.length_map, ta.length, List.take_length] at eG
          refine q H7 l (fun b o nb e => kp _ _ (ne_of_none e ndg) (k6 b o nb e)) nlH ⟨dx, td, dg, kp _ _ (Ne.symm gy) y6, ⟨as, kp _ _ gl l6, ta6.keep fun b xs e => kp _ _ (ne_of e g6 (by intro z; cases z)) e⟩, kp _ _ gd d6, eG⟩
theorem has_init (D : IsMeth K C "__init__" "Yard.__init__" s_Yard_init) (B : Blt mg) (T : YTxt K mg C) (CH : Has P w K mg base 1 "check_yard" ["many", "ties"] spCheck) : HasM P w K mg base C 2 "__init__" ["self", "many", "ties"] (spInit C) := by
  obtain ⟨f, fd, h1, h2, h3⟩ := has_initF (P := P) (w := w) (base := base) D B T CH
  refine ⟨f, fd, h1, h2.imp fun vs H Q E h => ?_, h3⟩
  obtain ⟨y, dx, tl, n, ps, rfl, hy, pa, ti, n1, n30, q⟩ := h
  exact ⟨y, dx, tl, n, ps, rfl, hy, pa, ti, n1, n30, fun H' l k nl ⟨dx, td, dg, a, b, c, d⟩ => q H' k ⟨dx, l, td, dg, a, b, c, d⟩⟩
end
end DR

set_option Elab.async false
set_option linter.all false
set_option maxRecDepth 100000
set_option maxHeartbeats 4000000
namespace DR
open PySem PySem.Spec PyProof.Rows L2
/-- whether two places are tied -/
def tied (ps : List (Int × Int)) (a b : Int) : Bool := decide ((a, b) ∈ ps) || decide ((b, a) ∈ ps)
def spMany (C : Addr) : Sp := fun vs H Q _ => ∃ (y : Addr) (n : Nat) (ps : List (Int × Int)), vs = [.ref y] ∧ YardAt C H y n ps ∧ Q (.int (n : Int)) H
def spTies (C : Addr) : Sp := fun vs H Q _ => ∃ (y : Addr) (n : Nat) (ps : List (Int × Int)), vs = [.ref y] ∧ YardAt C H y n ps ∧ ∀ H' l, Same H H' → H l = none → PairsAt H' l ps → Q (.ref l) H'
def spTied (C : Addr) : Sp := fun vs H Q _ => ∃ (y : Addr) (n : Nat) (ps : List (Int × Int)) (a b : Int), vs = [.ref y, .int a, .int b] ∧ YardAt C H y n ps ∧ ∀ H', Same H H' → Q (.bl (tied ps a b)) H'
def spDeg (C : Addr) : Sp := fun vs H Q _ => ∃ (y : Addr) (n : Nat) (ps : List (Int × Int)) (a : Int), vs = [.ref y, .int a] ∧ YardAt C H y n ps ∧ 0 ≤ a ∧ a < n ∧ Q (.int (cnt ps a)) H
section
variable {P : Program} {w : World} {K : PySem.W.Frag} {mg : Str → Option Value} {base : Heap} {C : Addr}
theorem scMany : FnScope ["self"] ["self"] (defScope s_Yard_many) := ⟨rfl, rfl, rfl, by decide +kernel, rfl, by decide +kernel, by decide +kernel⟩
theorem has_many (D : IsMeth K C "many" "Yard.many" s_Yard_many) (T : YTxt K mg C) : HasM P w K mg base C 1 "many" ["self"] (spMany C) := by
  refine hasM_of D scMany (fun _ _ _ _ _ _ us hl => match us, hl with | [_], _ => rfl) (fun vs H Q E h => ?_) (fun f cdv A outer s H vs Q E hr h => ?_)
  · obtain ⟨y, n, ps, rfl, _⟩ := h
    rfl
  · obtain ⟨y, n, ps, rfl, ⟨dx, l, td, dg, h1, h2, h3, h4⟩, q⟩ := h
    refine ⟨_, pss_one (ps_ret (pe_fld (pv 0) rfl)), ?_⟩
    exact ⟨_, rfl, y, C, dx, _, _, rfl, h1, T.cl, T.nM, look_yM n l td dg, q⟩
theorem scTies : FnScope ["self"] ["self"] (defScope s_Yard_ties) := ⟨rfl, rfl, rfl, by decide +kernel, rfl, by decide +kernel, by decide +kernel⟩
theorem has_ties (D : IsMeth K C "ties" "Yard.ties" s_Yard_ties) (B : Blt mg) (T : YTxt K mg C) : HasM P w K mg base C 1 "ties" ["self"] (spTies C) := by
  refine hasM_of D scTies (fun _ _ _ _ _ _ us hl => match us, hl with | [_], _ => rfl) (fun vs H Q E h => ?_) (fun f cdv A outer s H vs Q E hr h => ?_)
  · obtain ⟨y, n, ps, rfl, _⟩ := h
    rfl
  · obtain ⟨y, n, ps, rfl, ⟨dx, l, td, dg, h1, ⟨as, el, ta⟩, h3, h4⟩, q⟩ := h
    refine ⟨_, pss_one (ps_ret (pe_callTy call_list_of (by rfl) B.list (by decide +kernel) (pa_cons (pe_fld (pv 0) rfl) pa_nil))), ?_⟩
    refine ⟨_, rfl, y, C, dx, _, _, rfl, h1, T.cl, T.nT, look_yT n l td dg, l, _, rfl, .inl (SqL.of el), fun p np => ?_⟩
    exact q _ p (same_new np) np ⟨as, upd_same, ta.new np⟩
end
end DR

set_option Elab.async false
set_option linter.all false
set_option maxRecDepth 100000
set_option maxHeartbeats 4000000
namespace DR
open PySem PySem.Spec PyProof.Rows L2
theorem hu64 {A : Around} {k : Nat} (hr : Room k A) : A.units + 64 < cLine := by have := hr.un; omega
theorem hu65 {A : Around} {k : Nat} (hr : Room k A) : A.units + 65 < cLine := by have := hr.un; omega
/-! ### the law's own words of a yard -/
/-- the pair of a drawn yard -/
def LawT (H : Hp) (t : Addr) (n : Nat) (ps : List (Int × Int)) : Prop := ∃ tl, H t = some (.tup [.int (n : Int), .ref tl]) ∧ PairsAt H tl ps
theorem LawT.same {H H' : Hp} {t : Addr} {n : Nat} {ps : List (Int × Int)} (h : LawT H t n ps) (s : Same H H') : LawT H' t n ps := by
  obtain ⟨tl, e, p⟩ := h
  exact ⟨tl, s _ _ e, p.same s⟩
/-- the same with its pairs in a list or in a dict -/
def LawK (H : Hp) (t : Addr) (n : Nat) (ps : List (Int × Int)) : Prop := ∃ tl, H t = some (.tup [.int (n : Int), .ref tl]) ∧ Known H tl ps
theorem LawK.same {H H' : Hp} {t : Addr} {n : Nat} {ps : List (Int × Int)} (h : LawK H t n ps) (s : Same H H') : LawK H' t n ps := by
  obtain ⟨tl, e, p⟩ := h
  exact ⟨tl, s _ _ e, p.same s⟩
theorem LawT.k {H : Hp} {t : Addr} {n : Nat} {ps : List (Int × Int)} (h : LawT H t n ps) : LawK H t n ps := by
  obtain ⟨tl, e, p⟩ := h
  exact ⟨tl, e, .inl p⟩
def LawD (H : Hp) (t : Addr) (n : Nat) (ps : List (Int × Int)) : Prop := ∃ td, H t = some (.tup [.int (n : Int), .ref td]) ∧ H td = some (.dT (tiedD ps))
theorem LawD.same {H H' : Hp} {t : Addr} {n : Nat} {ps : List (Int × Int)} (h : LawD H t n ps) (s : Same H H') : LawD H' t n ps := by
  obtain ⟨tl, e, p⟩ := h
  exact ⟨tl, s _ _ e, s _ _ p⟩
theorem LawD.k {H : Hp} {t : Addr} {n : Nat} {ps : List (Int × Int)} (h : LawD H t n ps) : LawK H t n ps := by
  obtain ⟨tl, e, p⟩ := h
  exact ⟨tl, e, .inr p⟩
theorem Ties.tied_mm {n : Nat} {ps : List (Int × Int)} (h : Ties n ps) (a b : Int) : decide ((if b < a then b else a, if b > a then b else a) ∈ ps) = tied ps a b := by
  unfold tied
  by_cases c : a ≤ b
  · rw [if_neg (by omega)]
    by_cases c2 : b > a
    · rw [if_pos c2]
      have : (b, a) ∉ ps := fun z => by
        have := h.rng _ z
        simp at this
        omega
      simp [this]
    · obtain rfl : a = b := by omega
      simp
  · rw [if_pos (by omega), if_neg (by omega)]
    have : (a, b) ∉ ps := fun z => by
      have := h.rng _ z
      simp at this
      omega
    simp [this]
end DR

set_option Elab.async false
set_option linter.all false
set_option maxRecDepth 100000
set_option maxHeartbeats 4000000
namespace DR
open PySem PySem.Spec PyProof.Rows L2
theorem dice_tup {H : Hp} {d t : Addr} {xs : List V} (hd : DiceAt H d) (et : H t = some (.tup xs)) : t ≠ d := fun e => by
  obtain ⟨o, ho, ys, rfl, _⟩ := hd
  rw [e, ho] at et
  injection et with et
  cases et
theorem PairsAt.dice {H : Hp} {d tl : Addr} {ps : List (Int × Int)} {o : HO} (pa : PairsAt H tl ps) (hd : DiceAt H d) : PairsAt (upd H d o) tl ps := by
  obtain ⟨as, e, ta⟩ := pa
  obtain ⟨o1, ho, doo⟩ := id hd
  refine ⟨as, (upd_ne (fun z => hd.ne e z)).trans e, ta.keep fun b xs e => ?_⟩
  rw [upd_ne (fun z => by
    rw [z, ho] at e
    obtain ⟨xs, rfl, _⟩ := doo
    injection e with e
    cases e)]
  exact e
end DR

set_option Elab.async false
set_option linter.all false
set_option maxRecDepth 100000
set_option maxHeartbeats 4000000
namespace DR
open PySem PySem.Spec PyProof.Rows L2
theorem perm_ints {ns : List Int} {ys : List V} (h : ys.Perm (ns.map V.int)) : ∃ os : List Int, ys = os.map V.int ∧ os.Perm ns := by
  have toI : ∀ ys : List V, (∀ y ∈ ys, ∃ i, y = V.int i) → ∃ os : List Int, ys = os.map V.int := by
    intro ys
    induction ys with
    | nil => exact fun _ => ⟨[], rfl⟩
    | cons y r ih =>
      intro hy
      obtain ⟨i, rfl⟩ := hy y List.mem_cons_self
      obtain ⟨os, rfl⟩ := ih fun z hz => hy z (List.mem_cons_of_mem _ hz)
      exact ⟨i :: os, rfl⟩
  obtain ⟨os, rfl⟩ := toI ys fun y hy => by
    obtain ⟨i, _, rfl⟩ := List.mem_map.mp (h.mem_iff.mp hy)
    exact ⟨i, rfl⟩
  refine ⟨os, rfl, ?_⟩
  have g : ∀ l : List Int, (l.map V.int).filterMap (fun v => match v with | .int i => some i | _ => none) = l := by
    intro l
    induction l with
    | nil => rfl
    | cons a l ih => simp [ih]
  have := h.filterMap (fun v => match v with | .int i => some i | _ => none)
  rwa [g, g] at this
end DR

set_option Elab.async false
set_option linter.all false
set_option maxRecDepth 100000
set_option maxHeartbeats 4000000
namespace DR
open PySem PySem.Spec PyProof.Rows L2
section
variable {P : Program} {w : World} {K : PySem.W.Frag} {mg : Str → Option Value} {base : Heap}
/-! ### all pairs -/
def spPairs : Sp := fun vs H Q _ => ∃ (n : Nat), vs = [.int (n : Int)] ∧ n ≤ 30 ∧ ∀ H' l, Same H H' → H l = none → PairsAt H' l (pairsOf n) → Q (.ref l) H'
theorem scPairs : FnScope ["_law_many", "_law_found", "_law_one", "_law_other"] ["_law_many"] (defScope s__law_pairs) := ⟨rfl, rfl, rfl, by decide +kernel, rfl, by decide +kernel, by decide +kernel⟩
theorem has_pairs (D : IsDef K mg "_law_pairs" s__law_pairs) (B : Blt mg) : Has P w K mg base 1 "_law_pairs" ["_law_many"] spPairs := by
  refine has_of D scPairs (fun _ _ _ _ _ _ us hl => match us, hl with | [_], _ => rfl) (fun vs H Q E h => ?_) (fun f cdv A outer s H vs Q E hr h => ?_)
  · obtain ⟨n, rfl, _⟩ := h
    rfl
  · obtain ⟨n, rfl, hn, q⟩ := h
    refine ⟨_, pss_cons (ps_set (i := 1) scPairs.nd rfl (.inl rfl) (pe_lst pa_nil))
      (pss_cons (ps_for PassesOwn.never rfl (pi_range1 (by rfl) B.range (pa_cons (pv 0) pa_nil)) (pg_name (i := 2) scPairs.nd rfl (.inr rfl))
        (pss_one (ps_set (i := 1) scPairs.nd rfl (.inl rfl) (pe_op op_cat (pv 1)
          (pe_lc (own := [("_law_other", 3)]) (g := gName 3) (tt := tYes) (by rfl) scPairs.nd (pi_range2 (by rfl) B.range (pa_cons (pe_op op_add (pv 2) pe_int) (pa_cons (pv 0) pa_nil))) (blkOk_by (N := ["_law_many", "_law_found", "_law_one", "_law_other"]) (sc := defScope s__law_pairs) (by decide +kernel))
            (fun _ _ _ _ _ => pg_name (i := 3) scPairs.nd rfl (.inl rfl)) (fun _ _ _ _ _ => pts_nil) (fun _ _ _ _ _ => pe_tup (pa_cons (pv 2) (pa_cons (pv 3) pa_nil))))))))
      (pss_one (ps_ret (pv 1)))), ?_⟩
    refine ⟨by show 0 ≤ sizeLine; decide, fun l0 n0 => ?_⟩
    refine ⟨_, rfl, (n : Int), rfl, by omega, by omega, ?_⟩
    rw [Int.toNat_natCast]
    refine for_range (lo := 0) (n := n) (fun i σ H2 => ∃ (l : Addr) (a b : Option V), σ = [some (.int (n : Int)), some (.ref l), a, b] ∧ Same H H2 ∧ H l = none ∧ PairsAt H2 l (pairsTo n i)) ⟨l0, none, none, rfl, same_new n0, n0, [], upd_same, .nil⟩ ?_ ?_
    · rintro i σ H2 hi ⟨l, a, b, rfl, s2, nl, as, el, ta⟩
      refine ⟨_, rfl, _, rfl, _, _, rfl, rfl, _, rfl, _, _, rfl, ⟨by omega, by omega, by omega, by omega⟩, fun D nD => ?_⟩
      have e0 : ((n : Int) - (0 + (i : Int) + 1)).toNat = n - (i + 1) := by omega
      rw [e0]
      refine lc_range (lo := 0 + (i : Int) + 1) (n := n - (i + 1)) (fun j H3 => ∃ bs : List Addr, Kp D H2 H3 ∧ H3 D = some (.lst (bs.map V.ref)) ∧ TupsAt H3 bs ((rowOf n i).take j)) ⟨[], Kp.put _ _ _, upd_same, .nil⟩ ?_ ?_
      · rintro j H3 hj ⟨bs, kp, eD, tb⟩
        refine ⟨rfl, _, rfl, _, rfl, (by show 2 ≤ sizeLine; decide), fun t nt => ?_⟩
        have nDt : D ≠ t := ne_of_none eD nt
        have hl := tb.length
        rw [List.length_take, rowOf_len] at hl
        refine ⟨bs.map V.ref, (upd_ne nDt).trans eD, ?_, bs ++ [t], fun b o nb e => ?_, ?_, ?_⟩
        · rw [List.length_map]
          exact small1000 (by omega)
        · rw [upd_ne nb]
          exact same_new nt b o (kp b o nb e)
        · rw [upd_same]
          simp
        · rw [rowOf_take n i j hj]
          refine TupsAt.lst (TupsAt.append (tb.new nt) (.cons ?_ .nil)) ((upd_ne nDt).trans eD)
          rw [upd_same, Int.zero_add]
      · rintro H3 ⟨bs, kp, eD, tb⟩
        have nlD : l ≠ D := ne_of_none el nD
        have el3 := kp l _ nlD el
        have hb := tb.length
        have ha := ta.length
        have hp := pairsTo_len n i
        have hin : i * n ≤ 30 * 30 := Nat.mul_le_mul (by omega) hn
        rw [List.length_take, rowOf_len] at hb
        rw [List.take_of_length_le (by rw [rowOf_len]; exact Nat.le_refl _)] at tb
        refine ⟨l, D, _, _, rfl, rfl, el3, eD, ?_, fun p np => ?_⟩
        · rw [List.length_map, List.length_map, sizeLine_eq]
          omega
        · have s3 : Same H2 H3 := fun b o e => kp b o (ne_of_none e nD) e
          refine ⟨p, _, _, rfl, s2.trans (s3.trans (same_new np)), s2.free (s3.free np), as ++ bs, ?_, ?_⟩
          · rw [upd_same]
            simp
          · rw [pairsTo_succ]
            exact ((ta.same s3).append tb).new np
    · rintro σ H2 ⟨l, a, b, rfl, s2, nl, hp⟩
      exact ⟨_, rfl, q H2 l s2 nl hp⟩
end
end DR

set_option Elab.async false
set_option linter.all false
set_option maxRecDepth 100000
set_option maxHeartbeats 4000000
namespace DR
open PySem PySem.Spec PyProof.Rows L2
section
variable {P : Program} {w : World} {K : PySem.W.Frag} {mg : Str → Option Value} {base : Heap}
/-! ### a drawn yard -/
def spYard : Sp := fun vs H Q _ => ∃ (d : Addr) (lo hi : Nat), vs = [.ref d, .int (lo : Int), .int (hi : Int)] ∧ DiceAt H d ∧ 1 ≤ lo ∧ lo ≤ hi ∧ hi ≤ 30 ∧
  ∀ H' t tl n ps, Kp d H H' → DiceAt H' d → H t = none → H tl = none → H' t = some (.tup [.int ((n : Nat) : Int), .ref tl]) → PairsAt H' tl ps → Ties n ps → lo ≤ n → n ≤ hi → Q (.ref t) H'
abbrev nYard : List Str := ["_law_d", "_law_least", "_law_most", "_law_many", wayN, "_law_ties", "_law_half", "_law_middle", "_law_sides", "_law_pair", "_law_place"]
theorem scYard : FnScope nYard ["_law_d", "_law_least", "_law_most"] (defScope s__law_yard) := ⟨rfl, rfl, rfl, by decide +kernel, rfl, by decide +kernel, by decide +kernel⟩
/-- the frame between the statements -/
def WYard (d : Addr) (H : Hp) (n : Nat) (lo hi : Int) (way : Int) (σ : L2.St) (H' : Hp) : Prop := ∃ (tl : Addr) (ps : List (Int × Int)) (x6 x7 x8 x9 x10 : Option V), σ = [some (.ref d), some (.int lo), some (.int hi), some (.int (n : Int)), some (.int way), some (.ref tl), x6, x7, x8, x9, x10] ∧
  Kp d H H' ∧ DiceAt H' d ∧ H tl = none ∧ PairsAt H' tl ps ∧ Ties n ps
theorem has_yard (D : IsDef K mg "_law_yard" s__law_yard) (B : Blt mg) (O : Has P w K mg base 1 "_law_off" ["_law_d", "_law_most"] spOff) (PR : Has P w K mg base 1 "_law_pairs" ["_law_many"] spPairs) (M : Has P w K mg base 2 "_law_mixed" ["_law_d", "_law_row"] (spMixed K)) :
    Has P w K mg base 3 "_law_yard" ["_law_d", "_law_least", "_law_most"] spYard := by
  refine has_of D scYard (fun _ _ _ _ _ _ us hl => match us, hl with | [_, _, _], _ => rfl) (fun vs H Q E h => ?_) (fun f cdv A outer s H vs Q E hr h => ?_)
  · obtain ⟨d, lo, hi, rfl, _⟩ := h
    rfl
  · obtain ⟨d, lo, hi, rfl, hd, h1, h2, h3, q⟩ := h
    have blk : ∀ {scope : Scope} {i : Nat} {x : Str}, blkC nYard (defScope s__law_yard) scope [(x, i)] = true → BlkOk nYard (defScope s__law_yard) scope [(x, i)] := fun h => blkOk_by h
    refine ⟨_, pss_cons (ps_set (i := 3) scYard.nd rfl (.inl rfl) (pe_op op_add (pv 1) (pe_has O hr (by decide) (by rfl) (pa_cons (pv 0) (pa_cons (pe_op op_add (pe_op op_sub (pv 2) (pv 1)) pe_int) pa_nil)))))
      (pss_cons (ps_set (i := 4) scYard.nd rfl (.inr rfl) (pe_has O hr (by decide) (by rfl) (pa_cons (pv 0) (pa_cons pe_int pa_nil))))
      (C8.pss_cut (ps_setLc (i := 5) (own := [("_law_pair", 9)]) (g := gName 9) (by rfl) scYard.nd rfl rfl (sw_true rfl rfl rfl (by decide +kernel)) (pi_list (pe_has PR hr (by decide) (by rfl) (pa_cons (pv 3) pa_nil))) (blk (by decide +kernel)) (fun _ _ _ _ _ => pg_name (i := 9) scYard.nd rfl (.inl rfl))
          (fun _ _ _ _ _ => pts_one (pt_cmpR op_lt (pe_has O hr (by decide) (by rfl) (pa_cons (pv 0) (pa_cons pe_int pa_nil))) (pe_ix (r := rIxL K) ix_list (pe_lst (pa_cons pe_int (pa_cons pe_int (pa_cons pe_int (pa_cons pe_int (pa_cons pe_int (pa_cons pe_int (pa_cons pe_int pa_nil)))))))) (pv 4) (fun _ _ => rfl)) (nomark _))) (fun _ _ _ _ _ => pv 9))
      (C8.pss_cut (ps_if (pt_cmpR op_eq (pv 4) pe_int (nomark _))
        (pss_one (ps_set (i := 5) scYard.nd rfl (.inl rfl) (pe_slice sl_list (pe_has M hr (by decide) (by rfl) (pa_cons (pv 0) (pa_cons (pv 5) pa_nil))) (po_some (pe_has O hr (by decide) (by rfl) (pa_cons (pv 0) (pa_cons pe_int pa_nil)))) po_none))) pss_nil)
      (C8.pss_cut (ps_if (pt_cmpR op_eq (pv 4) pe_int (nomark _))
        (pss_cons (ps_set (i := 6) scYard.nd rfl (.inr rfl) (pe_op op_fdivN (pv 3) pe_int))
        (pss_one (ps_setLc (i := 5) (own := [("_law_pair", 9)]) (g := gName 9) (by rfl) scYard.nd rfl rfl (sw_true rfl rfl rfl (by decide +kernel)) (pi_list (pe_has PR hr (by decide) (by rfl) (pa_cons (pv 3) pa_nil))) (blk (by decide +kernel)) (fun _ _ _ _ _ => pg_name (i := 9) scYard.nd rfl (.inl rfl))
          (fun _ _ _ _ _ => pts_one (PW.pt (pw_and (pt_cmpR op_lt (pe_ix (r := rIxT K) ix_tup (pv 9) pe_int (fun _ _ => rfl)) (pv 6) (nomark _)) (pw_and1 (pt_cmpR op_ge (pe_ix (r := rIxT K) ix_tup (pv 9) pe_int (fun _ _ => rfl)) (pe_op op_sub (pv 6) (pe_has O hr (by decide) (by rfl) (pa_cons (pv 0) (pa_cons pe_int pa_nil)))) (nomark _)))))) (fun _ _ _ _ _ => pv 9)))) pss_nil)
      (C8.pss_cut (ps_if (pt_cmpR op_eq (pv 4) pe_int (nomark _))
        (pss_cons (ps_set (i := 7) scYard.nd rfl (.inr rfl) (pe_has O hr (by decide) (by rfl) (pa_cons (pv 0) (pa_cons (pv 3) pa_nil))))
        (C8.pss_cut (ps_set (i := 8) scYard.nd rfl (.inr rfl) (pe_lc (own := [("_law_place", 10)]) (g := gName 10) (tt := tYes) (by rfl) scYard.nd (pi_range1 (by rfl) B.range (pa_cons (pv 3) pa_nil)) (blk (by decide +kernel)) (fun _ _ _ _ _ => pg_name (i := 10) scYard.nd rfl (.inl rfl)) (fun _ _ _ _ _ => pts_nil)
          (fun _ _ _ _ _ => pe_has O hr (by decide) (by rfl) (pa_cons (pv 0) (pa_cons pe_int pa_nil)))))
        (pss_one (ps_setLc (i := 5) (own := [("_law_pair", 9)]) (g := gName 9) (by rfl) scYard.nd rfl rfl (sw_true rfl rfl rfl (by decide +kernel)) (pi_list (pe_has PR hr (by decide) (by rfl) (pa_cons (pv 3) pa_nil))) (blk (by decide +kernel)) (fun _ _ _ _ _ => pg_name (i := 9) scYard.nd rfl (.inl rfl))
          (fun _ _ _ _ _ => pts_one (PW.pt (pw_or (pt_cmpR (r := rIn K false) op_in_seq (pv 7) (pv 9) (by with_unfolding_all rfl)) (pw_or1 (pt_cmpR op_eq (pe_ix (r := rIxL K) ix_list (pv 8) (pe_ix (r := rIxT K) ix_tup (pv 9) pe_int (fun _ _ => rfl)) (fun _ _ => rfl)) (pe_ix (r := rIxL K) ix_list (pv 8) (pe_ix (r := rIxT K) ix_tup (pv 9) pe_int (fun _ _ => rfl)) (fun _ _ => rfl)) (nomark _)))))) (fun _ _ _ _ _ => pv 9))))) pss_nil)
      (pss_one (ps_ret (pe_tup (pa_cons (pv 3) (pa_cons (pe_has M hr (by decide) (by rfl) (pa_cons (pv 0) (pa_cons (pv 5) pa_nil))) pa_nil)))))))))), ?_⟩
    obtain ⟨o0, ho0, do0⟩ := id hd
    -- many, way
    refine ⟨_, rfl, _, rfl, _, rfl, _, rfl, _, _, rfl, rfl, _, _, rfl, rfl, d, _, o0, rfl, ho0, do0, by omega, by omega, fun r o1 r0 r1 do1 => ?_⟩
    refine ⟨_, _, rfl, rfl, ?_⟩
    obtain ⟨n, hn⟩ : ∃ n : Nat, (lo : Int) + r = (n : Int) := ⟨lo + r.toNat, by omega⟩
    dsimp only
    rw [hn]
    have n1 : lo ≤ n := by omega
    have n2 : n ≤ hi := by omega
    refine ⟨_, rfl, d, _, o1, rfl, upd_same, do1, by decide, by decide, fun way o2 w0 w1 do2 => ?_⟩
    rw [upd_upd]
    have kp0 : Kp d H (upd H d o2) := Kp.put _ _ _
    have hd0 : DiceAt (upd H d o2) d := DiceAt.put do2
    -- the list of pairs, picked from
    refine ⟨WYard d H n (lo : Int) (hi : Int) way, ?_, ?_⟩
    · refine ⟨_, rfl, n, rfl, by omega, fun H1 l s1 nl ⟨as, el, ta⟩ => ?_⟩
      have hd1 : DiceAt H1 d := ⟨o2, s1 _ _ upd_same, do2⟩
      have kp1 : Kp d H H1 := kp0.trans (Same.kp s1 d)
      have la := ta.length
      refine ⟨l, rfl, ⟨_, SqL.of el⟩, fun D nD => lc_pick el ta hd1 nD (by have := (Ties.all n).len900 (by omega); omega) (by show 9 < 11; decide) (fun a p H2 R hp ea k2 hd2 fin => ?_) (fun H2 bs qs k2 hd2 eD tb sb => ?_)⟩
      · obtain ⟨o, ho, doo⟩ := id hd2
        refine ⟨_, rfl, d, 8, o, rfl, ho, doo, by decide, by decide, fun r o' _ _ do' => ?_⟩
        refine ⟨by show 7 ≤ sizeLine; decide, fun z nz => ?_⟩
        obtain ⟨c, _, hc⟩ := atI_int (xs := [.int 2, .int 4, .int 6, .int 7, .int 8, .int 4, .int 4]) [2, 4, 6, 7, 8, 4, 4] rfl w0 w1
        refine ⟨_, rfl, z, _, way, _, rfl, rfl, SqL.of upd_same, hc, _, _, rfl, rfl, _, rfl, fin _ _ ((Kp.put d H2 o').new nz) ((DiceAt.put do').new nz)⟩
      · exact ⟨D, qs, none, none, none, none, none, rfl, kp1.trans k2, hd2, kp1.free hd1 nD, ⟨bs, eD, tb⟩, (Ties.all n).sub sb⟩
    · rintro σ H1 ⟨tl, ps, x6, x7, x8, x9, x10, rfl, k1, hd1, ntl, pa, ti⟩
      -- if way == 4
      refine ⟨WYard d H n (lo : Int) (hi : Int) way, ⟨_, rfl, rfl, _, rfl, ite2 (fun _ => ?_) (fun _ => ⟨tl, ps, x6, x7, x8, x9, x10, rfl, k1, hd1, ntl, pa, ti⟩)⟩, ?_⟩
      · obtain ⟨as, el, ta⟩ := pa
        refine ⟨_, rfl, _, rfl, d, tl, _, rfl, hd1, SqL.of el, ?_, fun H2 p ys pm k2 hd2 np ep => ?_⟩
        · rw [List.length_map, ta.length]
          have := ti.len900 (by omega)
          omega
        obtain ⟨o, ho, doo⟩ := id hd2
        refine ⟨_, rfl, d, 4, o, rfl, ho, doo, by decide, by decide, fun r o' r0 r1 do' => ?_⟩
        have pd : p ≠ d := fun z => hd1.some (z ▸ np)
        refine ⟨_, rfl, p, ys, rfl, SqL.of ((upd_ne pd).trans ep), fun q nq => ?_⟩
        have ta2 : TupsAt H2 as ps := ta.keep fun b xs e => k2 b _ (fun z => by
          obtain ⟨o, h1, xs, rfl, h2⟩ := hd1
          rw [z, h1] at e
          injection e with e
          cases e) e
        obtain ⟨bs, qs, rfl, tb, pq⟩ := ta2.perm pm
        obtain ⟨rk, rfl⟩ : ∃ k : Nat, r = (k : Int) := ⟨r.toNat, by omega⟩
        have kq : Kp d H (upd H2 d o') := (k1.trans k2).trans (Kp.put _ _ _)
        refine ⟨q, qs.drop rk, x6, x7, x8, x9, x10, rfl, kq.new nq, (DiceAt.put do').new nq, kq.free (DiceAt.put do') nq, ⟨bs.drop rk, ?_, ?_⟩, (ti.perm pq).sub (List.drop_sublist _ _)⟩
        · rw [upd_same, cut_from, List.map_drop]
        · refine TupsAt.new (TupsAt.keep (tb.drop rk) fun b xs e => ?_) nq
          rw [upd_ne (fun z => by
            rw [z, ho] at e
            obtain ⟨xs, rfl, _⟩ := doo
            injection e with e
            cases e)]
          exact e
      · rintro σ H1 ⟨tl, ps, x6, x7, x8, x9, x10, rfl, k1, hd1, ntl, pa, ti⟩
        -- if way == 5
        refine ⟨WYard d H n (lo : Int) (hi : Int) way, ⟨_, rfl, rfl, _, rfl, ite2 (fun _ => ?_) (fun _ => ⟨tl, ps, x6, x7, x8, x9, x10, rfl, k1, hd1, ntl, pa, ti⟩)⟩, ?_⟩
        · refine ⟨_, rfl, _, _, rfl, rfl, ⟨by decide, by decide⟩, ?_⟩
          refine ⟨_, rfl, n, rfl, by omega, fun H2 l s1 nl ⟨as, el, ta⟩ => ?_⟩
          obtain ⟨o, ho, doo⟩ := id hd1
          have hd2 : DiceAt H2 d := ⟨o, s1 _ _ ho, doo⟩
          have kp2 : Kp d H H2 := k1.trans (Same.kp s1 d)
          have la := ta.length
          refine ⟨l, rfl, ⟨_, SqL.of el⟩, fun D nD => lc_pick el ta hd2 nD (by have := (Ties.all n).len900 (by omega); omega) (by show 9 < 11; decide) (fun a p H3 R hp ea k3 hd3 fin => ?_) (fun H3 bs qs k3 hd3 eD tb sb => ?_)⟩
          · refine ⟨_, rfl, a, _, _, _, rfl, rfl, SqT.of ea, atI_nat (j := 0) rfl, _, rfl, _, _, rfl, rfl, _, rfl, ite2 (fun _ => ?_) (fun _ => fin _ _ (Kp.refl _ _) hd3)⟩
            refine ⟨_, rfl, a, _, _, _, rfl, rfl, SqT.of ea, atI_nat (j := 1) rfl, _, rfl, _, rfl, ?_⟩
            obtain ⟨o3, ho3, do3⟩ := id hd3
            refine ⟨d, 2, o3, rfl, ho3, do3, by decide, by decide, fun r o' _ _ do' => ?_⟩
            exact ⟨_, _, rfl, rfl, _, _, rfl, rfl, _, rfl, fin _ _ (Kp.put _ _ _) (DiceAt.put do')⟩
          · exact ⟨D, qs, _, _, _, _, _, rfl, kp2.trans k3, hd3, kp2.free hd2 nD, ⟨bs, eD, tb⟩, (Ties.all n).sub sb⟩
        · rintro σ H1 ⟨tl, ps, x6, x7, x8, x9, x10, rfl, k1, hd1, ntl, pa, ti⟩
          -- if way == 6
          refine ⟨WYard d H n (lo : Int) (hi : Int) way, ⟨_, rfl, rfl, _, rfl, ite2 (fun _ => ?_) (fun _ => ⟨tl, ps, x6, x7, x8, x9, x10, rfl, k1, hd1, ntl, pa, ti⟩)⟩, ?_⟩
          · obtain ⟨o, ho, doo⟩ := id hd1
            refine ⟨_, rfl, _, rfl, d, (n : Int), o, rfl, ho, doo, by omega, by omega, fun mid o' m0 m1 do' => ?_⟩
            have hd1' : DiceAt (upd H1 d o') d := DiceAt.put do'
            have k1' : Kp d H (upd H1 d o') := k1.trans (Kp.put _ _ _)
            refine ⟨fun σ H2 => ∃ (S : Addr) (ns : List Int) (y9 y10 : Option V), σ = [some (.ref d), some (.int (lo : Int)), some (.int (hi : Int)), some (.int (n : Int)), some (.int way), some (.ref tl), x6, some (.int mid), some (.ref S), y9, y10] ∧
              Kp d H H2 ∧ DiceAt H2 d ∧ H2 S = some (.lst (ns.map V.int)) ∧ ns.length = n ∧ S ≠ d, ?_, ?_⟩
            · refine ⟨_, rfl, (n : Int), rfl, by omega, by omega, fun D nD => ?_⟩
              have dD : D ≠ d := fun z => hd1'.some (z ▸ nD)
              rw [Int.toNat_natCast]
              refine lc_range (lo := 0) (n := n) (fun j H2 => ∃ ns : List Int, ns.length = j ∧ Kp d (upd H1 d o') H2 ∧ DiceAt H2 d ∧ H2 D = some (.lst (ns.map V.int))) ⟨[], rfl, (Kp.refl _ _).new nD, hd1'.new nD, upd_same⟩ ?_ ?_
              · rintro j H2 hj ⟨ns, hl, k2, hd2, eD⟩
                obtain ⟨o2, ho2, do2⟩ := id hd2
                refine ⟨rfl, _, rfl, d, 2, o2, rfl, ho2, do2, by decide, by decide, fun r o3 _ _ do3 => ?_⟩
                refine ⟨ns.map V.int, (upd_ne dD).trans eD, ?_, ns ++ [r], by simp [hl], (k2.trans (Kp.put _ _ _)).wr nD, (DiceAt.put do3).lst dD, ?_⟩
                · rw [List.length_map]
                  exact small1000 (by omega)
                · rw [upd_same]
                  simp
              · rintro H2 ⟨ns, hl, k2, hd2, eD⟩
                exact ⟨D, ns, _, _, rfl, k1'.trans k2, hd2, eD, hl, dD⟩
            · rintro σ H2 ⟨S, ns, y9, y10, rfl, kp2, hd2, eS, hl, dS⟩
              refine ⟨_, rfl, n, rfl, by omega, fun H3 l s1 nl ⟨as, el, ta⟩ => ?_⟩
              obtain ⟨o3, ho3, do3⟩ := id hd2
              have hd3 : DiceAt H3 d := ⟨o3, s1 _ _ ho3, do3⟩
              have kp3 : Kp d H H3 := kp2.trans (Same.kp s1 d)
              have la := ta.length
              refine ⟨l, rfl, ⟨_, SqL.of el⟩, fun D nD => lc_pick el ta hd3 nD (by have := (Ties.all n).len900 (by omega); omega) (by show 9 < 11; decide) (fun a p H4 R hp ea k4 hd4 fin => ?_) (fun H4 bs qs k4 hd4 eD tb sb => ?_)⟩
              · have b := (Ties.all n).bound hp
                have eS4 : H4 S = some (.lst (ns.map V.int)) := k4 _ _ dS (s1 _ _ eS)
                obtain ⟨c1, _, hc1⟩ := atI_int (xs := ns.map V.int) ns rfl b.1 (by omega)
                obtain ⟨c2, _, hc2⟩ := atI_int (xs := ns.map V.int) ns rfl b.2.2.1 (by omega)
                refine ⟨_, rfl, _, rfl, a, _, rfl, .inr (SqT.of ea), rfl, rfl, _, rfl, ite2 (fun _ => fin _ _ (Kp.refl _ _) hd4) (fun _ => ?_)⟩
                exact ⟨_, rfl, _, rfl, a, _, _, _, rfl, rfl, SqT.of ea, atI_nat (j := 0) rfl, S, _, _, _, rfl, rfl, SqL.of eS4, hc1, _, rfl, _, rfl, a, _, _, _, rfl, rfl, SqT.of ea, atI_nat (j := 1) rfl, S, _, _, _, rfl, rfl, SqL.of eS4, hc2, rfl, _, rfl, fin _ _ (Kp.refl _ _) hd4⟩
              · exact ⟨D, qs, _, _, _, _, _, rfl, kp3.trans k4, hd4, kp3.free hd3 nD, ⟨bs, eD, tb⟩, (Ties.all n).sub sb⟩
          · rintro σ H1 ⟨tl, ps, x6, x7, x8, x9, x10, rfl, k1, hd1, ntl, ⟨as, el, ta⟩, ti⟩
            refine ⟨_, rfl, _, rfl, _, rfl, d, tl, _, rfl, hd1, SqL.of el, ?_, fun H2 p ys pm k2 hd2 np ep => ?_⟩
            · rw [List.length_map, ta.length]
              have := ti.len900 (by omega)
              omega
            refine ⟨by show 2 ≤ sizeLine; decide, fun t nt => ?_⟩
            have ta2 : TupsAt H2 as ps := ta.keep fun b xs e => k2 b _ (fun z => by
              obtain ⟨o, h1, xs, rfl, h2⟩ := hd1
              rw [z, h1] at e
              injection e with e
              cases e) e
            obtain ⟨bs, qs, rfl, tb, pq⟩ := ta2.perm pm
            have k3 := k1.trans k2
            have pt : p ≠ t := ne_of_none ep nt
            exact q _ t p n qs (k3.new nt) (hd2.new nt) (k3.free hd2 nt) (k1.free hd1 np) upd_same ⟨bs, (upd_ne pt).trans ep, tb.new nt⟩ (ti.perm pq) n1 n2
end
end DR

set_option Elab.async false
set_option linter.all false
set_option maxRecDepth 100000
set_option maxHeartbeats 4000000
namespace DR
open PySem PySem.Spec PyProof.Rows L2
section
variable {P : Program} {w : World} {K : PySem.W.Frag} {mg : Str → Option Value} {base : Heap} {C : Addr}
theorem scIsTied : FnScope ["self", "one", "other"] ["self", "one", "other"] (defScope s_Yard_is_tied) := ⟨rfl, rfl, rfl, by decide +kernel, rfl, by decide +kernel, by decide +kernel⟩
theorem has_tied (D : IsMeth K C "is_tied" "Yard.is_tied" s_Yard_is_tied) (T : YTxt K mg C) : HasM P w K mg base C 1 "is_tied" ["self", "one", "other"] (spTied C) := by
  refine hasM_of D scIsTied (fun _ _ _ _ _ _ us hl => match us, hl with | [_, _, _], _ => rfl) (fun vs H Q E h => ?_) (fun f cdv A outer s H vs Q E hr h => ?_)
  · obtain ⟨y, n, ps, a, b, rfl, _⟩ := h
    rfl
  · obtain ⟨y, n, ps, a, b, rfl, ⟨dx, l, td, dg, h1, h2, h3, h4⟩, q⟩ := h
    have hu := hu_of hr
    refine ⟨_, pss_one (ps_ret (pe_or (pe_cmp (pc_din hu (pe_tup (pa_cons (pv 1) (pa_cons (pv 2) pa_nil))) (pe_fld (pv 0) rfl)) (by with_unfolding_all rfl)) (pe_one (pe_cmp (pc_din hu (pe_tup (pa_cons (pv 2) (pa_cons (pv 1) pa_nil))) (pe_fld (pv 0) rfl)) (by with_unfolding_all rfl))))), ?_⟩
    refine ⟨_, rfl, _, rfl, by show 2 ≤ sizeLine; decide, fun t nt => ?_⟩
    have s1 := same_new (o := .tup [.int a, .int b]) nt
    refine ⟨_, rfl, y, C, dx, _, _, rfl, s1 _ _ h1, T.cl, T.nD, look_yD n l td dg, td, _, rfl, DGet.t (k := [Sum.inl a, Sum.inl b]) (s1 _ _ h3) upd_same, _, rfl, ?_⟩
    rw [valV_tied]
    by_cases m : (a, b) ∈ ps
    · rw [if_pos m]
      refine iteT ?_
      have e : tied ps a b = true := by simp [tied, m]
      rw [← e]
      exact q _ s1
    · rw [if_neg m]
      refine iteF ?_
      refine ⟨_, rfl, _, rfl, by show 2 ≤ sizeLine; decide, fun t2 nt2 => ?_⟩
      have s2 := same_new (o := .tup [.int b, .int a]) nt2
      refine ⟨_, rfl, y, C, dx, _, _, rfl, s2 _ _ (s1 _ _ h1), T.cl, T.nD, look_yD n l td dg, td, _, rfl, DGet.t (k := [Sum.inl b, Sum.inl a]) (s2 _ _ (s1 _ _ h3)) upd_same, ?_⟩
      rw [valV_tied]
      have e : (if (b, a) ∈ ps then some (V.bl true) else none).isSome = tied ps a b := by
        by_cases m2 : (b, a) ∈ ps <;> simp [tied, m, m2]
      rw [e]
      exact q _ (s1.trans s2)
end
end DR

set_option Elab.async false
set_option linter.all false
set_option maxRecDepth 100000
set_option maxHeartbeats 4000000
namespace DR
open PySem PySem.Spec PyProof.Rows L2
section
variable {P : Program} {w : World} {K : PySem.W.Frag} {mg : Str → Option Value} {base : Heap} {C : Addr}
def spMade (C : Addr) : Sp := fun vs H Q _ => ∃ (t : Addr) (n : Nat) (ps : List (Int × Int)), vs = [.ref t] ∧ LawT H t n ps ∧ Ties n ps ∧ 1 ≤ n ∧ n ≤ 30 ∧ ∀ H' y, Same H H' → YardAt C H' y n ps → Q (.ref y) H'
theorem scMade : FnScope ["_law_t"] ["_law_t"] (defScope s__law_made) := ⟨rfl, rfl, rfl, by decide +kernel, rfl, by decide +kernel, by decide +kernel⟩
theorem has_made (D : IsDef K mg "_law_made" s__law_made) (B : Blt mg) (T : YTxt K mg C) (I : HasM P w K mg base C 2 "__init__" ["self", "many", "ties"] (spInit C)) (mk : PySem.W.makesIn K C = true) (kc : PySem.W.keepIn K (.ref C) = true) :
    Has P w K mg base 4 "_law_made" ["_law_t"] (spMade C) := by
  refine has_of D scMade (fun _ _ _ _ _ _ us hl => match us, hl with | [_], _ => rfl) (fun vs H Q E h => ?_) (fun f cdv A outer s H vs Q E hr h => ?_)
  · obtain ⟨t, n, ps, rfl, _⟩ := h
    rfl
  · obtain ⟨t, n, ps, rfl, ⟨tl, et, as, el, ta⟩, ti, n1, n30, q⟩ := h
    refine ⟨_, pss_one (ps_ret (pe_hasMk I mk kc hr (by decide) (by rfl) T.mgC (pa_cons (pe_ix (r := rIxT K) ix_tup (pv 0) pe_int (fun _ _ => rfl)) (pa_cons (pe_callTy call_list_of (by rfl) B.list (by decide +kernel) (pa_cons (pe_ix (r := rIxT K) ix_tup (pv 0) pe_int (fun _ _ => rfl)) pa_nil)) pa_nil)))), ?_⟩
    refine ⟨_, rfl, t, _, _, _, rfl, rfl, SqT.of et, atI_nat (j := 0) rfl, _, rfl, t, _, _, _, rfl, rfl, SqT.of et, atI_nat (j := 1) rfl, tl, _, rfl, .inl (SqL.of el), fun p np x dx nx ndx hne => ?_⟩
    have pa : PairsAt (upd H p (.lst (as.map V.ref))) p ps := ⟨as, upd_same, ta.new np⟩
    have sx : Same (upd H p (.lst (as.map V.ref))) (upd (upd (upd H p (.lst (as.map V.ref))) dx (.own x)) x (.ins C dx [])) := (same_new ndx).trans (same_new ((upd_ne (Ne.symm hne)).trans nx))
    refine ⟨x, dx, p, n, ps, rfl, upd_same, pa.same sx, ti, n1, n30, fun H' k hy => ⟨rfl, ?_⟩⟩
    refine q H' x (fun b o e => ?_) hy
    have bx : b ≠ x := fun z => by
      have := none_upd nx
      rw [z, this.2] at e
      cases e
    exact k b o bx (sx b o (same_new np b o e))
end
end DR

set_option Elab.async false
set_option linter.all false
set_option maxRecDepth 100000
set_option maxHeartbeats 4000000
namespace DR
open PySem PySem.Spec PyProof.Rows L2
/-! ### data: numbers, words, lists and tuples of such -/
def Dat0 (v : V) (d : PyData) : Prop := (∃ i : Int, v = .int i ∧ d = .int i) ∨ ∃ x : Str, v = .str x ∧ d = .str x ∧ PyData.strOk x = true
def Dat (N : Addr → Prop) (H : Hp) : Nat → V → PyData → Prop
  | 0, v, d => Dat0 v d
  | k + 1, v, d => Dat0 v d ∨ ∃ a xs ds, v = .ref a ∧ N a ∧ ((H a = some (.lst xs) ∧ d = .list ds) ∨ (H a = some (.tup xs) ∧ d = .tuple ds)) ∧ xs.length ≤ 1000 ∧ Paired (Dat N H k) xs ds
theorem Dat.of0 {N : Addr → Prop} {H : Hp} {k : Nat} {v : V} {d : PyData} (h : Dat0 v d) : Dat N H k v d := by
  cases k with
  | zero => exact h
  | succ k => exact .inl h
theorem Dat.int {N : Addr → Prop} {H : Hp} {k : Nat} (i : Int) : Dat N H k (.int i) (.int i) := Dat.of0 (.inl ⟨i, rfl, rfl⟩)
theorem Dat.str {N : Addr → Prop} {H : Hp} {k : Nat} (x : Str) (h : PyData.strOk x = true) : Dat N H k (.str x) (.str x) := Dat.of0 (.inr ⟨x, rfl, rfl, h⟩)
theorem Dat.tup {N : Addr → Prop} {H : Hp} {k : Nat} {a : Addr} {xs : List V} {ds : List PyData} (e : H a = some (.tup xs)) (na : N a) (l : xs.length ≤ 1000) (p : Paired (Dat N H k) xs ds) : Dat N H (k + 1) (.ref a) (.tuple ds) := .inr ⟨a, xs, ds, rfl, na, .inr ⟨e, rfl⟩, l, p⟩
theorem Dat.lst {N : Addr → Prop} {H : Hp} {k : Nat} {a : Addr} {xs : List V} {ds : List PyData} (e : H a = some (.lst xs)) (na : N a) (l : xs.length ≤ 1000) (p : Paired (Dat N H k) xs ds) : Dat N H (k + 1) (.ref a) (.list ds) := .inr ⟨a, xs, ds, rfl, na, .inl ⟨e, rfl⟩, l, p⟩
theorem Dat.kp {N : Addr → Prop} {H H' : Hp} {D : Addr} (n : ∀ a, N a → a ≠ D) (s : Kp D H H') : ∀ {k : Nat} {v : V} {d : PyData}, Dat N H k v d → Dat N H' k v d
  | 0, _, _, h => h
  | k + 1, v, d, h => by
    rcases h with h | ⟨a, xs, ds, h1, na, h2, h3, h4⟩
    · exact .inl h
    · exact .inr ⟨a, xs, ds, h1, na, h2.elim (fun h => .inl ⟨s _ _ (n a na) h.1, h.2⟩) (fun h => .inr ⟨s _ _ (n a na) h.1, h.2⟩), h3, Paired.mapP h4 fun a b h => Dat.kp n s h⟩
theorem Dat.imp {N N' : Addr → Prop} {H : Hp} (n : ∀ a, N a → N' a) : ∀ {k : Nat} {v : V} {d : PyData}, Dat N H k v d → Dat N' H k v d
  | 0, _, _, h => h
  | k + 1, v, d, h => by
    rcases h with h | ⟨a, xs, ds, h1, na, h2, h3, h4⟩
    · exact .inl h
    · exact .inr ⟨a, xs, ds, h1, n a na, h2, h3, Paired.mapP h4 fun a b h => Dat.imp n h⟩
theorem Dat.same {N : Addr → Prop} {H H' : Hp} (s : Same H H') : ∀ {k : Nat} {v : V} {d : PyData}, Dat N H k v d → Dat N H' k v d
  | 0, _, _, h => h
  | k + 1, v, d, h => by
    rcases h with h | ⟨a, xs, ds, h1, na, h2, h3, h4⟩
    · exact .inl h
    · exact .inr ⟨a, xs, ds, h1, na, h2.elim (fun h => .inl ⟨s _ _ h.1, h.2⟩) (fun h => .inr ⟨s _ _ h.1, h.2⟩), h3, Paired.mapP h4 fun a b h => Dat.same s h⟩
theorem Dat.up1 {N : Addr → Prop} {H : Hp} : ∀ {k : Nat} {v : V} {d : PyData}, Dat N H k v d → Dat N H (k + 1) v d
  | 0, _, _, h => .inl h
  | k + 1, v, d, h => by
    rcases h with h | ⟨a, xs, ds, h1, na, h2, h3, h4⟩
    · exact .inl h
    · exact .inr ⟨a, xs, ds, h1, na, h2, h3, Paired.mapP h4 fun a b h => Dat.up1 h⟩
theorem Dat.up {N : Addr → Prop} {H : Hp} {j k : Nat} {v : V} {d : PyData} (h : Dat N H j v d) (l : j ≤ k) : Dat N H k v d := by
  induction l with
  | refl => exact h
  | step _ ih => exact ih.up1
theorem paired_dp {K : PySem.W.Frag} {H : Hp} {F : V → PyData → Prop} (h : ∀ v d, F v d → Dp K H v d) : ∀ {xs : List V} {ds : List PyData}, Paired F xs ds → DpAll K H xs ds
  | _, _, .nil => .nil
  | _, _, .cons r t => .cons (h _ _ r) (paired_dp h t)
theorem Dat.dp {N : Addr → Prop} {K : PySem.W.Frag} {H : Hp} : ∀ {k : Nat} {v : V} {d : PyData}, Dat N H k v d → Dp K H v d := by
  have zero : ∀ {v : V} {d : PyData}, Dat0 v d → Dp K H v d := fun h => by
    rcases h with ⟨i, rfl, rfl⟩ | ⟨x, rfl, rfl, _⟩
    · exact .int i
    · exact .str x
  intro k
  induction k with
  | zero =>
    intro v d h
    exact zero h
  | succ k ih =>
    intro v d h
    rcases h with h | ⟨a, xs, ds, rfl, na, ⟨h2, rfl⟩ | ⟨h2, rfl⟩, h3, h4⟩
    · exact zero h
    · exact .lst (SqL.of h2) (paired_dp (fun _ _ h => ih h) h4)
    · exact .tup (SqT.of h2) (paired_dp (fun _ _ h => ih h) h4)
theorem paired_lay {F : V → PyData → Prop} (h : ∀ v d, F v d → d.canLay0 = true) : ∀ {xs : List V} {ds : List PyData}, Paired F xs ds → PyData.canLayAll0 ds = true
  | _, _, .nil => by simp [PyData.canLayAll0]
  | _, _, .cons r t => by simp [PyData.canLayAll0, h _ _ r, paired_lay h t]
theorem Dat.lay {N : Addr → Prop} {H : Hp} : ∀ {k : Nat} {v : V} {d : PyData}, Dat N H k v d → d.canLay0 = true := by
  have zero : ∀ {v : V} {d : PyData}, Dat0 v d → d.canLay0 = true := fun h => by
    rcases h with ⟨i, rfl, rfl⟩ | ⟨x, rfl, rfl, hx⟩
    · simp [PyData.canLay0]
    · simpa [PyData.canLay0] using hx
  intro k
  induction k with
  | zero =>
    intro v d h
    exact zero h
  | succ k ih =>
    intro v d h
    rcases h with h | ⟨a, xs, ds, rfl, na, ⟨h2, rfl⟩ | ⟨h2, rfl⟩, h3, h4⟩
    · exact zero h
    · simpa [PyData.canLay0] using paired_lay (fun _ _ h => ih h) h4
    · simpa [PyData.canLay0] using paired_lay (fun _ _ h => ih h) h4
theorem paired_deep {F : V → PyData → Prop} {k : Nat} (h : ∀ v d, F v d → d.depth ≤ k) : ∀ {xs : List V} {ds : List PyData}, Paired F xs ds → PyData.depthAll ds ≤ k
  | _, _, .nil => by simp [PyData.depthAll]
  | _, _, .cons r t => by
    have h1 := h _ _ r
    have h2 := paired_deep h t
    simp only [PyData.depthAll]
    omega
theorem Dat.deep {N : Addr → Prop} {H : Hp} : ∀ {k : Nat} {v : V} {d : PyData}, Dat N H k v d → d.depth ≤ k := by
  have zero : ∀ {v : V} {d : PyData}, Dat0 v d → d.depth = 0 := fun h => by
    rcases h with ⟨i, rfl, rfl⟩ | ⟨x, rfl, rfl, hx⟩ <;> simp [PyData.depth]
  intro k
  induction k with
  | zero =>
    intro v d h
    rw [zero h]
    exact Nat.le_refl _
  | succ k ih =>
    intro v d h
    rcases h with h | ⟨a, xs, ds, rfl, na, ⟨h2, rfl⟩ | ⟨h2, rfl⟩, h3, h4⟩
    · rw [zero h]
      omega
    · have := paired_deep (fun _ _ h => ih h) h4
      simp only [PyData.depth]
      omega
    · have := paired_deep (fun _ _ h => ih h) h4
      simp only [PyData.depth]
      omega
/-- != of deep data -/
def rNeDd (K : PySem.W.Frag) : R2 := fun x y H Q => ∃ d e, Dp K H x d ∧ Dp K H y e ∧ d.canLay0 = true ∧ e.canLay0 = true ∧ d.depth ≤ 150 ∧ Q (.bl (!PyData.eqv d e)) H
theorem op_neDd {X : Cx} (hu : X.A.units + 150 < cLine) : OpR X (compareOp .NotEq) (rNeDd X.K) := by
  intro pins s σ H x y v u Q I rx ry h
  obtain ⟨d, e, hd, he, sd, se, dd, q⟩ := h
  obtain ⟨as, r1⟩ := Dp.reads I d x v hd rx
  obtain ⟨bs, r2⟩ := Dp.reads I e y u he ry
  exact SeqAt.compareNe_reads r1 r2 sd se (Nat.lt_of_le_of_lt (Nat.add_le_add_left (Nat.le_trans (Nat.min_le_left _ _) dd) _) hu) ⟨.bl _, H, I, rfl, q⟩
end DR

set_option Elab.async false
set_option linter.all false
set_option maxRecDepth 100000
set_option maxHeartbeats 4000000
namespace DR
open PySem PySem.Spec PyProof.Rows L2
theorem DiceAt.same {H H' : Hp} {d : Addr} (h : DiceAt H d) (s : Same H H') : DiceAt H' d := by
  obtain ⟨o, e, x⟩ := h
  exact ⟨o, s _ _ e, x⟩
/-- tuple(x) of a list or a tuple -/
def rTupOf (K : PySem.W.Frag) : List V → Hp → VK → Prop := fun xs H Q => ∃ p ys, xs = [.ref p] ∧ ((SqL K H p ys ∧ ∀ l, H l = none → Q (.ref l) (upd H l (.tup ys))) ∨ (SqT K H p ys ∧ Q (.ref p) H))
end DR

set_option Elab.async false
set_option linter.all false
set_option maxRecDepth 100000
set_option maxHeartbeats 4000000
namespace DR
open PySem PySem.Spec PyProof.Rows L2
section
variable {P : Program} {w : World} {K : PySem.W.Frag} {mg : Str → Option Value} {base : Heap}
/-! #### _law_kept -/
def spKept (k : Nat) : Sp := fun vs H Q _ => ∃ (v : V) (d : PyData), vs = [v] ∧ Dat (fun _ => True) H k v d ∧ ∀ H' u, Same H H' → Dat (fun a => H a = none) H' k u d → Q u H'
abbrev nKept : List Str := ["_law_found", "_law_one"]
theorem scKept : FnScope nKept ["_law_found"] (defScope s__law_kept) := ⟨rfl, rfl, rfl, by decide +kernel, rfl, by decide +kernel, by decide +kernel⟩
theorem kept0 (D : IsDef K mg "_law_kept" s__law_kept) (B : Blt mg) : Has P w K mg base 1 "_law_kept" ["_law_found"] (spKept 0) := by
  refine has_of D scKept (fun _ _ _ _ _ _ us hl => match us, hl with | [_], _ => rfl) (fun vs H Q E h => ?_) (fun f cdv A outer s H vs Q E hr h => ?_)
  · obtain ⟨v, d, rfl, _⟩ := h
    rfl
  · obtain ⟨v, d, rfl, hd, q⟩ := h
    refine ⟨_, pss_cons (ps_if (pt_val (pe_callB call_isi (by rfl) B.isinstance (by decide +kernel) (pa_cons (pv 0) (pa_cons (pe_bltn (v := .ty "list") (by rfl) B.list (by decide +kernel) rfl) pa_nil)))) pss_never pss_nil)
      (pss_cons (ps_if (pt_val (pe_callB call_isi (by rfl) B.isinstance (by decide +kernel) (pa_cons (pv 0) (pa_cons (pe_bltn (v := .ty "tuple") (by rfl) B.tuple (by decide +kernel) rfl) pa_nil)))) pss_never pss_nil)
      (pss_one (ps_ret (pv 0)))), ?_⟩
    have q' := q H v (Same.refl H) (Dat.of0 (show Dat0 v d from hd))
    rcases hd with ⟨i, rfl, rfl⟩ | ⟨x, rfl, rfl, hx⟩
    · refine ⟨_, rfl, _, _, _, _, false, rfl, .ty _, .base (.int _), kit_ty (by decide +kernel), _, rfl, iteF ?_⟩
      exact ⟨_, rfl, _, _, _, _, false, rfl, .ty _, .base (.int _), kit_ty (by decide +kernel), _, rfl, iteF ⟨_, rfl, q'⟩⟩
    · refine ⟨_, rfl, _, _, _, _, false, rfl, .ty _, .base (.str _), kit_ty (by decide +kernel), _, rfl, iteF ?_⟩
      exact ⟨_, rfl, _, _, _, _, false, rfl, .ty _, .base (.str _), kit_ty (by decide +kernel), _, rfl, iteF ⟨_, rfl, q'⟩⟩
theorem paired_at {α β : Type} {F : α → β → Prop} : ∀ {xs : List α} {ds : List β}, Paired F xs ds → ∀ {j : Nat} {v : α}, xs[j]? = some v → ∃ d, ds[j]? = some d ∧ F v d
  | _, _, .nil, j, v, h => by simp at h
  | _, _, .cons r t, 0, v, h => by
    simp at h
    subst h
    exact ⟨_, rfl, r⟩
  | _, _, .cons r t, j + 1, v, h => by
    obtain ⟨d, h1, h2⟩ := paired_at t (j := j) (v := v) (by simpa using h)
    exact ⟨d, by simpa using h1, h2⟩
theorem paired_len {α β : Type} {F : α → β → Prop} : ∀ {xs : List α} {ds : List β}, Paired F xs ds → xs.length = ds.length
  | _, _, .nil => rfl
  | _, _, .cons r t => by simp [paired_len t]
theorem paired_app {α β : Type} {F : α → β → Prop} : ∀ {xs ys : List α} {ds es : List β}, Paired F xs ds → Paired F ys es → Paired F (xs ++ ys) (ds ++ es)
  | _, _, _, _, .nil, h => h
  | _, _, _, _, .cons r t, h => .cons r (paired_app t h)
theorem kept1 {k : Nat} (D : IsDef K mg "_law_kept" s__law_kept) (B : Blt mg) (R : Has P w K mg base (k + 1) "_law_kept" ["_law_found"] (spKept k)) : Has P w K mg base (k + 1 + 1) "_law_kept" ["_law_found"] (spKept (k + 1)) := by
  refine has_of D scKept (fun _ _ _ _ _ _ us hl => match us, hl with | [_], _ => rfl) (fun vs H Q E h => ?_) (fun f cdv A outer s H vs Q E hr h => ?_)
  · obtain ⟨v, d, rfl, _⟩ := h
    rfl
  · obtain ⟨v, d, rfl, hd, q⟩ := h
    refine ⟨_, pss_cons (ps_if (pt_val (pe_callB call_isi (by rfl) B.isinstance (by decide +kernel) (pa_cons (pv 0) (pa_cons (pe_bltn (v := .ty "list") (by rfl) B.list (by decide +kernel) rfl) pa_nil)))) (pss_one (ps_ret (pe_lc (own := [("_law_one", 1)]) (g := gName 1) (tt := tYes) (by rfl) scKept.nd (pi_list (pv 0)) (blkOk_by (N := nKept) (sc := defScope s__law_kept) (by decide +kernel)) (fun _ _ _ _ _ => pg_name (i := 1) scKept.nd rfl (.inl rfl)) (fun _ _ _ _ _ => pts_nil) (fun _ _ _ _ _ => pe_has R hr (Nat.le_refl _) (by rfl) (pa_cons (pv 1) pa_nil))))) pss_nil)
      (pss_cons (ps_if (pt_val (pe_callB call_isi (by rfl) B.isinstance (by decide +kernel) (pa_cons (pv 0) (pa_cons (pe_bltn (v := .ty "tuple") (by rfl) B.tuple (by decide +kernel) rfl) pa_nil)))) (pss_one (ps_ret (pe_callTy (T := "tuple") (r := rTupOf K) call_tuple_of (by rfl) B.tuple (by decide +kernel) (pa_cons (pe_lc (own := [("_law_one", 1)]) (g := gName 1) (tt := tYes) (by rfl) scKept.nd (pi_tup (pv 0)) (blkOk_by (N := nKept) (sc := defScope s__law_kept) (by decide +kernel)) (fun _ _ _ _ _ => pg_name (i := 1) scKept.nd rfl (.inl rfl)) (fun _ _ _ _ _ => pts_nil) (fun _ _ _ _ _ => pe_has R hr (Nat.le_refl _) (by rfl) (pa_cons (pv 1) pa_nil))) pa_nil)))) pss_nil)
      (pss_one (ps_ret (pv 0)))), ?_⟩
    rcases hd with (⟨i, rfl, rfl⟩ | ⟨x, rfl, rfl, hx⟩) | ⟨a, xs, ds, rfl, _, ⟨ea, rfl⟩ | ⟨ea, rfl⟩, few, pd⟩
    · have q := q H _ (Same.refl H) (Dat.int i)
      refine ⟨_, rfl, _, _, _, _, false, rfl, .ty _, .base (.int _), kit_ty (by decide +kernel), _, rfl, iteF ?_⟩
      exact ⟨_, rfl, _, _, _, _, false, rfl, .ty _, .base (.int _), kit_ty (by decide +kernel), _, rfl, iteF ⟨_, rfl, q⟩⟩
    · have q := q H _ (Same.refl H) (Dat.str x hx)
      refine ⟨_, rfl, _, _, _, _, false, rfl, .ty _, .base (.str _), kit_ty (by decide +kernel), _, rfl, iteF ?_⟩
      exact ⟨_, rfl, _, _, _, _, false, rfl, .ty _, .base (.str _), kit_ty (by decide +kernel), _, rfl, iteF ⟨_, rfl, q⟩⟩
    · refine ⟨_, rfl, _, _, _, _, true, rfl, .ty _, .base (.lst ea), kit_ty (by decide +kernel), _, rfl, iteT ?_⟩
      refine ⟨_, rfl, a, rfl, ⟨_, SqL.of ea⟩, fun D nD => ?_⟩
      have aD : a ≠ D := ne_of_none ea nD
      have pl := paired_len pd
      refine lc_list (K := K) (a := a) (xs := xs) (fun j H2 => Kp D H H2 ∧ ∃ ys, H2 D = some (.lst ys) ∧ Paired (Dat (fun a => H a = none ∧ a ≠ D) H2 k) ys (ds.take j)) ⟨Kp.put _ _ _, [], upd_same, .nil⟩ (fun j H2 _ ⟨kp, _⟩ => SqL.of (kp a _ aD ea)) ?_ ?_
      · rintro j v H2 hx ⟨kp, ys, eD, py⟩
        obtain ⟨d, hd, dv⟩ := paired_at pd hx
        have s2 : Same H H2 := fun c o e => kp c o (ne_of_none e nD) e
        have hy := paired_len py
        rw [List.length_take] at hy
        refine ⟨rfl, _, rfl, v, d, rfl, dv.same s2, fun H3 u s3 du => ?_⟩
        have du : Dat (fun a => H a = none ∧ a ≠ D) H3 k u d := du.imp fun b nb => ⟨s2.free nb, fun e => by
          rw [e, eD] at nb
          cases nb⟩
        have kw := Kp.put D H3 (.lst (ys ++ [u]))
        refine ⟨ys, s3 _ _ eD, small1000 (by omega), fun c o nc e => ?_, ys ++ [u], upd_same, ?_⟩
        · rw [upd_ne nc]
          exact s3 c o (kp c o nc e)
        · rw [List.take_succ, hd]
          exact paired_app (Paired.mapP py fun _ _ h => (h.same s3).kp (fun _ z => z.2) kw) (.cons (du.kp (fun _ z => z.2) kw) .nil)
      · rintro H2 ⟨kp, ys, eD, py⟩
        rw [pl, List.take_length] at py
        have hy := paired_len py
        refine q H2 (.ref D) (fun c o e => kp c o (ne_of_none e nD) e) (Dat.lst eD nD (by omega) (Paired.mapP py fun _ _ h => h.imp fun _ z => z.1))
    · refine ⟨_, rfl, _, _, _, _, false, rfl, .ty _, .base (.tup ea), kit_ty (by decide +kernel), _, rfl, iteF ?_⟩
      refine ⟨_, rfl, _, _, _, _, true, rfl, .ty _, .base (.tup ea), kit_ty (by decide +kernel), _, rfl, iteT ?_⟩
      refine ⟨_, rfl, a, rfl, ⟨_, SqT.of ea⟩, fun D nD => ?_⟩
      have aD : a ≠ D := ne_of_none ea nD
      have pl := paired_len pd
      refine lc_tup (K := K) (a := a) (xs := xs) (fun j H2 => Kp D H H2 ∧ ∃ ys, H2 D = some (.lst ys) ∧ Paired (Dat (fun a => H a = none ∧ a ≠ D) H2 k) ys (ds.take j)) ⟨Kp.put _ _ _, [], upd_same, .nil⟩ (fun j H2 _ ⟨kp, _⟩ => SqT.of (kp a _ aD ea)) ?_ ?_
      · rintro j v H2 hx ⟨kp, ys, eD, py⟩
        obtain ⟨d, hd, dv⟩ := paired_at pd hx
        have s2 : Same H H2 := fun c o e => kp c o (ne_of_none e nD) e
        have hy := paired_len py
        rw [List.length_take] at hy
        refine ⟨rfl, _, rfl, v, d, rfl, dv.same s2, fun H3 u s3 du => ?_⟩
        have du : Dat (fun a => H a = none ∧ a ≠ D) H3 k u d := du.imp fun b nb => ⟨s2.free nb, fun e => by
          rw [e, eD] at nb
          cases nb⟩
        have kw := Kp.put D H3 (.lst (ys ++ [u]))
        refine ⟨ys, s3 _ _ eD, small1000 (by omega), fun c o nc e => ?_, ys ++ [u], upd_same, ?_⟩
        · rw [upd_ne nc]
          exact s3 c o (kp c o nc e)
        · rw [List.take_succ, hd]
          exact paired_app (Paired.mapP py fun _ _ h => (h.same s3).kp (fun _ z => z.2) kw) (.cons (du.kp (fun _ z => z.2) kw) .nil)
      · rintro H2 ⟨kp, ys, eD, py⟩
        rw [pl, List.take_length] at py
        have hy := paired_len py
        have s2 : Same H H2 := fun c o e => kp c o (ne_of_none e nD) e
        refine ⟨D, ys, rfl, .inl ⟨SqL.of eD, fun t nt => ?_⟩⟩
        have st := same_new (o := .tup ys) nt
        exact q _ (.ref t) (s2.trans st) (Dat.tup upd_same (s2.free nt) (by omega) (Paired.mapP py fun _ _ h => (h.imp fun _ z => z.1).same st))
theorem has_kept (D : IsDef K mg "_law_kept" s__law_kept) (B : Blt mg) : ∀ k, Has P w K mg base (k + 1) "_law_kept" ["_law_found"] (spKept k)
  | 0 => kept0 D B
  | k + 1 => kept1 D B (has_kept D B k)
end
end DR

set_option Elab.async false
set_option linter.all false
set_option maxRecDepth 100000
set_option maxHeartbeats 4000000
/-! ### enumerate(zip(xs, ys)), two lists -/
namespace DR
open PySem PySem.W PyProof.Rows
open PySem.Builtin.SmallTypes (nextOf ownedTupleIsFree)
section
variable {prog : Program} {w : World} {A : Around} {E : Value → Shared → Prop} {s : Shared} {z TI TO i1 i2 l1 l2 : Addr} {k1 k2 : Nat} {xs ys : Array Value} {x y a b : Value}
/-- the zip, whatever tuple it gave out -/
def ZRec (v0 : Value) (f : Bool) (TI TO : Addr) : Obj := { cls := .type "zip", dict := none, data := .fields #[v0, .bool f, .bool false, .ref TI, .ref TO], slots := #[] }
def ZOk (h : Heap) (z TI TO : Addr) : Prop := (h.get? z = some (ZRec .none false TI TO)) ∨ ∃ (T : Addr) (f : Bool), h.get? z = some (ZRec (rawInt T) f TI TO)
theorem ZOk.at {h : Heap} (o : ZOk h z TI TO) : ∃ v0 f, h.get? z = some (ZRec v0 f TI TO) := by
  rcases o with o | ⟨T, f, o⟩
  · exact ⟨_, _, o⟩
  · exact ⟨_, _, o⟩
/-- nothing of it is out, or what was out is gone -/
def ZFree (w : World) (prog : Program) (s : Shared) (z : Addr) : Prop := ∀ (A : Around) (E : Value → Shared → Prop) (Q : Bool → Shared → Prop), Q true s → wpAny (model prog w) A (ownedTupleIsFree (.ref z)) Q E s
theorem zfree_or (o : ZOk s.heap z TI TO) : (∃ v0 f, s.heap.get? z = some (ZRec v0 f TI TO) ∧ ZFree w prog s z) ∨ ∃ T f oT, IsZipHeld s.heap z TI TO T f ∧ s.heap.get? T = some oT := by
  rcases o with o | ⟨T, f, o⟩
  · refine .inl ⟨_, _, o, fun A E Q q => ?_⟩
    unfold ownedTupleIsFree
    exact wpAny_bind (wpAny_field o rfl (x := .none) rfl (wpAny_pure q))
  · cases g : s.heap.get? T with
    | some oT => exact .inr ⟨T, f, oT, o, g⟩
    | none =>
      refine .inl ⟨_, _, o, fun A E Q q => ?_⟩
      unfold ownedTupleIsFree
      refine wpAny_bind (wpAny_field o rfl (x := rawInt T) rfl ?_)
      show wpAny _ _ (loadIfAlive ((T : Int).toNat) >>= _) _ _ _
      rw [Int.toNat_natCast]
      refine wpAny_bind ?_
      have e : ∀ R : Option Obj → Shared → Prop, R none s → wpAny (model prog w) A (loadIfAlive T) R E s := fun R r => by
        have r' : R (s.heap.get? T) s := by rw [g]; exact r
        exact fun _ _ _ => r'
      exact e _ (by simpa using wpAny_pure q)
/-- what a turn leaves -/
structure ZTo (s : Shared) (z TI TO i1 i2 l1 l2 : Addr) (k1 k2 : Nat) (x y : Value) (h' : Heap) : Prop where
  ok : ZOk h' z TI TO
  pr : ∃ a b, IsPair h' TO a b
  one : h'.IsListIter i1 l1 (k1 + 1)
  two : h'.IsListIter i2 l2 (k2 + 1)
  new : IsPair h' s.heap.objs.size x y
  sz : h'.objs.size = s.heap.objs.size + 1
  rest : ∀ c o, c ≠ z → c ≠ TO → c ≠ i1 → c ≠ i2 → s.heap.get? c = some o → h'.get? c = some o
theorem zn_free {Q : Value → Shared → Prop} (D : ZipApart z TI TO i1 i2 l1 l2) {v0 : Value} {f : Bool} (hz : s.heap.get? z = some (ZRec v0 f TI TO)) (zf : ZFree w prog s z) (pI : IsPair s.heap TI (.ref i1) (.ref i2)) (pO : IsPair s.heap TO a b)
    (u1 : s.heap.IsListIter i1 l1 k1) (u2 : s.heap.IsListIter i2 l2 k2) (m1 : s.heap.IsList l1 xs) (m2 : s.heap.IsList l2 ys) (ex : xs[k1]? = some x) (ey : ys[k2]? = some y)
    (q : ∀ h', ZTo s z TI TO i1 i2 l1 l2 k1 k2 x y h' → Q (.ref s.heap.objs.size) { s with heap := h' }) :
    wpAny (model prog w) A (Builtin.«zip.__next__» ⟨[.ref z], []⟩) (fun r s' => ∃ v, r = .done (.ret v) ∧ Q v s') E s := by
  show wpAny _ _ (field (.ref z) 2 >>= _) _ _ _
  refine wpAny_bind (wpAny_field hz rfl (x := .bool false) rfl ?_)
  show wpAny _ _ (field (.ref z) 3 >>= _) _ _ _
  refine wpAny_bind (wpAny_field hz rfl (x := .ref TI) rfl (wpAny_bind (wpAny_seqItems pI rfl ?_)))
  show wpAny _ _ (ownedTupleIsFree (.ref z) >>= _) _ _ _
  refine wpAny_bind (zf A E _ ?_)
  simp only [if_true]
  refine wpAny_bind (wpAny_rule (wpAny_bind (wpAny_field hz rfl (x := .ref TO) rfl (wpAny_bind (wpAny_setField_rec hz (by simp) fun g1 z1 b1 => ?_)))))
  replace z1 : g1.get? z = some (ZRec .ellipsis f TI TO) := z1
  refine wpAny_bind ?_
  simp only [List.zipIdx_cons, List.zipIdx_nil, List.forIn_cons, List.forIn_nil]
  refine wpAny_bind (wpAny_bind (wpAny_onRaise ?_))
  show wpAny _ _ (nextOf (.ref i1) >>= _) _ _ _
  refine wpAny_bind (wpAny_nextOf_list_item (u1.extBut b1.extBut D.i1z) (m1.extBut b1.extBut D.l1z) ex fun g2 n2 b2 => wpAny_pure ?_)
  have p2 : IsPair g2 TO a b := b2.extBut _ _ D.TOi1 (b1.extBut _ _ D.TOz pO)
  refine wpAny_bind (wpAny_seqItems p2 rfl (wpAny_bind (wpAny_updateSeq_pair p2 fun g3 p3 b3 => ?_)))
  replace p3 : IsPair g3 TO x b := p3
  refine wpAny_bind (wpAny_letGo (wpAny_pure (wpAny_bind (wpAny_bind (wpAny_onRaise ?_)))))
  show wpAny _ _ (nextOf (.ref i2) >>= _) _ _ _
  have v2 := ((u2.extBut b1.extBut D.i2z).extBut b2.extBut D.i12.symm).extBut b3.extBut D.TOi2.symm
  have w2 := ((m2.extBut b1.extBut D.l2z).extBut b2.extBut D.l2i1).extBut b3.extBut D.l2TO
  refine wpAny_bind (wpAny_nextOf_list_item v2 w2 ey fun g4 n4 b4 => wpAny_pure ?_)
  have p4 : IsPair g4 TO x b := b4.extBut _ _ D.TOi2 p3
  refine wpAny_bind (wpAny_seqItems p4 rfl (wpAny_bind (wpAny_updateSeq_pair p4 fun g5 p5 b5 => ?_)))
  replace p5 : IsPair g5 TO x y := p5
  refine wpAny_bind (wpAny_letGo (wpAny_pure (wpAny_pure (wpAny_bind (wpAny_seqItems p5 rfl (wpAny_bind (wpAny_newTuple ?_)))))))
  have sz : g5.objs.size = s.heap.objs.size := by rw [b5.1, b4.1, b3.1, b2.1, b1.1]
  have z5 : g5.get? z = some (ZRec .ellipsis f TI TO) := b5.extBut _ _ D.TOz.symm (b4.extBut _ _ D.i2z.symm (b3.extBut _ _ D.TOz.symm (b2.extBut _ _ D.i1z.symm z1)))
  have r5 : ∀ c o, c ≠ z → c ≠ TO → c ≠ i1 → c ≠ i2 → s.heap.get? c = some o → g5.get? c = some o := fun c o hc hO h1 h2 e =>
    b5.extBut _ _ hO (b4.extBut _ _ h2 (b3.extBut _ _ hO (b2.extBut _ _ h1 (b1.extBut _ _ hc e))))
  have one5 : g5.IsListIter i1 l1 (k1 + 1) := ((n2.extBut b3.extBut D.TOi1.symm).extBut b4.extBut D.i12).extBut b5.extBut D.TOi1.symm
  have two5 : g5.IsListIter i2 l2 (k2 + 1) := n4.extBut b5.extBut D.TOi2.symm
  have zlt : z < g5.objs.size := Heap.lt_size z5
  show wpAny _ _ (Builtin.SmallTypes.ownedTupleHandOut (.ref z) (.ref g5.objs.size) >>= _) _ _ _
  refine wpAny_bind ?_
  unfold Builtin.SmallTypes.ownedTupleHandOut
  have z6 : (g5.push { cls := .type "tuple", data := .seq #[x, y] }).get? z = some (ZRec .ellipsis f TI TO) := Heap.get?_push_of_some _ z5
  refine wpAny_bind (wpAny_setField_rec z6 (by simp) fun g7 z7 b7 => ?_)
  replace z7 : g7.get? z = some (ZRec (rawInt g5.objs.size) f TI TO) := z7
  refine wpAny_setField_rec z7 (by simp) fun g8 z8 b8 => ?_
  replace z8 : g8.get? z = some (ZRec (rawInt g5.objs.size) false TI TO) := z8
  have up : ∀ c o, c ≠ z → g5.get? c = some o → g8.get? c = some o := fun c o hc e => b8.extBut _ _ hc (b7.extBut _ _ hc (Heap.get?_push_of_some _ e))
  have t8 : IsPair g8 g5.objs.size x y := b8.extBut _ _ (Nat.ne_of_gt zlt) (b7.extBut _ _ (Nat.ne_of_gt zlt) (Heap.get?_push_size _ rfl))
  have s8 : g8.objs.size = g5.objs.size + 1 := by rw [b8.1, b7.1, Heap.size_push]
  rw [sz] at z8 t8 s8
  refine wpAny_pure ⟨_, rfl, ?_⟩
  show Q (.ref g5.objs.size) _
  rw [sz]
  exact q g8 ⟨.inr ⟨_, _, z8⟩, ⟨x, y, up _ _ D.TOz p5⟩, one5.at fun o e => up _ o D.i1z e, two5.at fun o e => up _ o D.i2z e, t8, s8, fun c o hc hO h1 h2 e => up c o hc (r5 c o hc hO h1 h2 e)⟩
theorem zn_item {Q : Value → Shared → Prop} (D : ZipApart z TI TO i1 i2 l1 l2) (zo : ZOk s.heap z TI TO) (pI : IsPair s.heap TI (.ref i1) (.ref i2)) (pO : IsPair s.heap TO a b)
    (u1 : s.heap.IsListIter i1 l1 k1) (u2 : s.heap.IsListIter i2 l2 k2) (m1 : s.heap.IsList l1 xs) (m2 : s.heap.IsList l2 ys) (ex : xs[k1]? = some x) (ey : ys[k2]? = some y)
    (q : ∀ h', ZTo s z TI TO i1 i2 l1 l2 k1 k2 x y h' → Q (.ref s.heap.objs.size) { s with heap := h' }) :
    wpAny (model prog w) A (nextOf (.ref z)) Q E s := by
  obtain ⟨v0, f, hz⟩ := zo.at
  have ty : s.TypeIs (.ref z) "zip" := ⟨_, hz, rfl⟩
  unfold nextOf
  refine wpAny_bind (wpAny_callSpecial?_slot (name := Str.ofString "__next__") ty F.slot_zip_next (wpAny_call_entry F.slot_zip_next ty F.entry_zip_next ?_ (F.args_zip_next_1 _)))
  rcases zfree_or (w := w) (prog := prog) zo with ⟨v0, f, hz, zf⟩ | ⟨T, f, oT, hh, hT⟩
  · exact zn_free D hz zf pI pO u1 u2 m1 m2 ex ey fun h' r => wpAny_pure (q h' r)
  · exact zip_next_item_held D hh hT pI u1 u2 m1 m2 ex ey fun h' r1 r2 r3 r4 r5 r6 => wpAny_pure (q h' ⟨.inr ⟨_, _, r1⟩, ⟨a, b, r6 _ _ D.TOz D.TOi1 D.TOi2 pO⟩, r2, r3, r4, r5, fun c o hc _ h1 h2 e => r6 c o hc h1 h2 e⟩)
/-- behind the last of the first list -/
theorem zn_end {Q : Value → Shared → Prop} (ha : A.handled = none) (D : ZipApart z TI TO i1 i2 l1 l2) (zo : ZOk s.heap z TI TO) (pI : IsPair s.heap TI (.ref i1) (.ref i2))
    (u1 : s.heap.IsListIter i1 l1 k1) (u2 : s.heap.IsListIter i2 l2 k2) (m1 : s.heap.IsList l1 xs) (m2 : s.heap.IsList l2 ys) (ex : xs[k1]? = none)
    (q : ∀ h' e, (∀ c o, c ≠ z → c ≠ i1 → c ≠ i2 → s.heap.get? c = some o → h'.get? c = some o) → (∃ o, h'.get? e = some o ∧ o.cls = .type "StopIteration") → E (.ref e) { s with heap := h' }) :
    wpAny (model prog w) A (nextOf (.ref z)) Q E s := by
  obtain ⟨v0, f, hz⟩ := zo.at
  have ty : s.TypeIs (.ref z) "zip" := ⟨_, hz, rfl⟩
  unfold nextOf
  refine wpAny_bind (wpAny_callSpecial?_slot (name := Str.ofString "__next__") ty F.slot_zip_next (wpAny_call_entry F.slot_zip_next ty F.entry_zip_next ?_ (F.args_zip_next_1 _)))
  rcases zfree_or (w := w) (prog := prog) zo with ⟨v0, f, hz, zf⟩ | ⟨T, f, oT, hh, hT⟩
  · show wpAny _ _ (field (.ref z) 2 >>= _) _ _ _
    refine wpAny_bind (wpAny_field hz rfl (x := .bool false) rfl ?_)
    show wpAny _ _ (field (.ref z) 3 >>= _) _ _ _
    refine wpAny_bind (wpAny_field hz rfl (x := .ref TI) rfl (wpAny_bind (wpAny_seqItems pI rfl ?_)))
    show wpAny _ _ (ownedTupleIsFree (.ref z) >>= _) _ _ _
    refine wpAny_bind (zf _ _ _ ?_)
    simp only [if_true]
    refine wpAny_bind (wpAny_rule (wpAny_bind (wpAny_field hz rfl (x := .ref TO) rfl (wpAny_bind (wpAny_setField_rec hz (by simp) fun g1 z1 b1 => ?_)))))
    replace z1 : g1.get? z = some (ZRec .ellipsis f TI TO) := z1
    refine wpAny_bind ?_
    simp only [List.zipIdx_cons, List.zipIdx_nil, List.forIn_cons, List.forIn_nil]
    refine wpAny_bind (wpAny_bind (wpAny_onRaise ?_))
    show wpAny _ _ (nextOf (.ref i1) >>= _) _ _ _
    refine wpAny_bind (wpAny_nextOf_list_end ha (u1.extBut b1.extBut D.i1z) (m1.extBut b1.extBut D.l1z) ex fun g2 e b2 he => ?_)
    obtain ⟨oe, e1, e2⟩ := he
    have z2 : g2.get? z = some (ZRec .ellipsis f TI TO) := b2 _ _ D.i1z.symm z1
    have ne : e ≠ z := fun t => by
      rw [t, z2] at e1
      cases e1
      simp [ZRec] at e2
    exact wpAny_setField_rec z2 (by simp) fun g3 _ b3 => q g3 e (fun c o c1 c2 _ t => b3.extBut _ _ c1 (b2 _ _ c2 (b1.extBut _ _ c1 t))) ⟨oe, b3.extBut _ _ ne e1, e2⟩
  · exact zip_next_end_held ha D hh hT pI u1 u2 m1 m2 (.inl ex) fun h' e k t => q h' e k t
/-- enumerate's next over an iterator that is known by a rule of its own -/
theorem en_item {e it : Addr} {i : Int} {old v : Value} {G : Heap → Prop} {Q : Value → Shared → Prop} (he : IsEnum s.heap e it i old)
    (inner : ∀ R : Value → Shared → Prop, (∀ g, G g → R v { s with heap := g }) → wpAny (model prog w) A (nextOf (.ref it)) R E s) (ge : ∀ g, G g → IsEnum g e it i old)
    (q : ∀ g h', G g → IsEnumOut h' e it (i + 1) v g.objs.size → h'.get? g.objs.size = some { cls := .type "tuple", data := .seq #[.int i s.toks, v] } → h'.objs.size = g.objs.size + 1 → (∀ c o, c ≠ e → g.get? c = some o → h'.get? c = some o) →
      Q (.ref g.objs.size) { s with heap := h', toks := s.toks + 1 }) :
    wpAny (model prog w) A (Builtin.«enumerate.__next__» ⟨[.ref e], []⟩) (fun r s' => ∃ v, r = .done (.ret v) ∧ Q v s') E s := by
  obtain ⟨hp, gn, dr, tk, os⟩ := s
  show wpAny _ _ (field (.ref e) 2 >>= _) _ _ _
  refine wpAny_bind (wpAny_field he rfl (x := .ref it) rfl (wpAny_bind (inner _ fun g gg => ?_)))
  have e1 := ge g gg
  show wpAny _ _ (field (.ref e) 3 >>= _) _ _ ⟨g, gn, dr, tk, os⟩
  refine wpAny_bind (wpAny_field e1 rfl (x := rawInt i) rfl ?_)
  show wpAny _ _ (field (.ref e) 4 >>= _) _ _ ⟨g, gn, dr, tk, os⟩
  refine wpAny_bind (wpAny_field e1 rfl (x := .none) rfl ?_)
  show wpAny _ _ (mkInt i >>= _) _ _ ⟨g, gn, dr, tk, os⟩
  refine wpAny_bind (wpAny_mkInt ?_)
  show wpAny _ _ (setField (.ref e) 3 (rawInt (i + 1)) >>= _) _ _ ⟨g, gn, dr, tk + 1, os⟩
  refine wpAny_bind (wpAny_setField_rec e1 (by simp) fun g2 e2 b2 => ?_)
  replace b2 : Heap.SameBut e g g2 := b2
  replace e2 : IsEnum g2 e it (i + 1) old := e2
  show wpAny _ _ (setField (.ref e) 4 .none >>= _) _ _ ⟨g2, gn, dr, tk + 1, os⟩
  refine wpAny_bind (wpAny_setField_rec e2 (by simp) fun g3 e3 b3 => ?_)
  replace b3 : Heap.SameBut e g2 g3 := b3
  replace e3 : IsEnum g3 e it (i + 1) old := e3
  show wpAny _ _ (newTuple [.int i tk, v] >>= _) _ _ ⟨g3, gn, dr, tk + 1, os⟩
  refine wpAny_bind (wpAny_newTuple ?_)
  have e4 : IsEnum (g3.push { cls := .type "tuple", data := .seq #[.int i tk, v] }) e it (i + 1) old := Heap.get?_push_of_some _ e3
  generalize hg4 : g3.push { cls := .type "tuple", data := .seq #[.int i tk, v] } = g4 at e4
  have sz : g3.objs.size = g.objs.size := by rw [b3.1, b2.1]
  have el : e < g.objs.size := Heap.lt_size e1
  have t4 : g4.get? g.objs.size = some { cls := .type "tuple", data := .seq #[.int i tk, v] } := by
    rw [← hg4, ← sz]
    exact Heap.get?_push_size _ rfl
  have s4 : g4.objs.size = g.objs.size + 1 := by
    rw [← hg4, Heap.size_push, sz]
  have r4 : ∀ c o, c ≠ e → g.get? c = some o → g4.get? c = some o := fun c o ce h => by
    rw [← hg4]
    exact Heap.get?_push_of_some _ (b3.extBut c o ce (b2.extBut c o ce h))
  show wpAny _ _ (ownedTupleIsFree (.ref e) >>= _) _ _ ⟨g4, gn, dr, tk + 1, os⟩
  rw [sz]
  clear hg4 e3 b3 e2 b2 sz
  refine wpAny_bind ?_
  unfold ownedTupleIsFree
  refine wpAny_bind (wpAny_field e4 rfl (x := .none) rfl (wpAny_pure ?_))
  simp only [if_true]
  refine wpAny_bind (wpAny_rule (wpAny_bind (wpAny_field e4 rfl (x := old) rfl (wpAny_bind (wpAny_setField_rec e4 (by simp) fun g5 e5 b5 => ?_)))))
  replace b5 : Heap.SameBut e g4 g5 := b5
  replace e5 : IsEnum g5 e it (i + 1) v := e5
  show wpAny _ _ (Builtin.SmallTypes.ownedTupleHandOut (.ref e) (.ref g.objs.size) >>= _) _ _ ⟨g5, gn, dr, tk + 1, os⟩
  refine wpAny_bind ?_
  unfold Builtin.SmallTypes.ownedTupleHandOut
  refine wpAny_bind (wpAny_setField_rec e5 (by simp) fun g6 e6 b6 => ?_)
  replace b6 : Heap.SameBut e g5 g6 := b6
  replace e6 : IsEnumOut g6 e it (i + 1) v g.objs.size := e6
  refine wpAny_setField_rec e6 (by simp) fun g7 e7 b7 => ?_
  replace b7 : Heap.SameBut e g6 g7 := b7
  have up : ∀ c o, c ≠ e → g4.get? c = some o → g7.get? c = some o := fun c o ce h => b7.extBut c o ce (b6.extBut c o ce (b5.extBut c o ce h))
  refine wpAny_bind (wpAny_letGo (wpAny_pure ⟨_, rfl, q g g7 gg e7 (up _ _ (Nat.ne_of_gt el) t4) ?_ fun c o ce h => up c o ce (r4 c o ce h)⟩))
  rw [b7.1, b6.1, b5.1, s4]
theorem en_next {e it : Addr} {i : Int} {old v : Value} {G : Heap → Prop} {Q : Option Value → Shared → Prop} (he : IsEnum s.heap e it i old)
    (inner : ∀ (A : Around) (E : Value → Shared → Prop) (R : Value → Shared → Prop), (∀ g, G g → R v { s with heap := g }) → wpAny (model prog w) A (nextOf (.ref it)) R E s) (ge : ∀ g, G g → IsEnum g e it i old)
    (q : ∀ g h', G g → IsEnumOut h' e it (i + 1) v g.objs.size → h'.get? g.objs.size = some { cls := .type "tuple", data := .seq #[.int i s.toks, v] } → h'.objs.size = g.objs.size + 1 → (∀ c o, c ≠ e → g.get? c = some o → h'.get? c = some o) →
      Q (some (.ref g.objs.size)) { s with heap := h', toks := s.toks + 1 }) : wpAny (model prog w) A (pyNext (.ref e)) Q E s := by
  have ty : s.TypeIs (.ref e) "enumerate" := ⟨_, he, rfl⟩
  unfold pyNext
  exact wpAny_bind (wpAny_attempt (wpAny_callSpecial?_slot (name := Str.ofString "__next__") ty F.slot_enumerate_next
    (wpAny_call_entry F.slot_enumerate_next ty F.entry_enumerate_next (en_item he (inner _ _) ge fun g h' r1 r2 r3 r4 r5 => wpAny_pure (q g h' r1 r2 r3 r4 r5)) (F.args_enumerate_next_1 _))))
theorem en_end {e it : Addr} {i : Int} {old : Value} {G : Heap → Prop} {Q : Option Value → Shared → Prop} (ha : A.handled = none) (he : IsEnum s.heap e it i old)
    (inner : ∀ (A : Around) (E : Value → Shared → Prop) (R : Value → Shared → Prop), A.handled = none → (∀ g x, G g → (∃ o, g.get? x = some o ∧ o.cls = .type "StopIteration") → E (.ref x) { s with heap := g }) → wpAny (model prog w) A (nextOf (.ref it)) R E s)
    (q : ∀ g, G g → Q none { s with heap := g }) : wpAny (model prog w) A (pyNext (.ref e)) Q E s := by
  have ty : s.TypeIs (.ref e) "enumerate" := ⟨_, he, rfl⟩
  unfold pyNext
  refine wpAny_bind (wpAny_attempt (wpAny_callSpecial?_slot (name := Str.ofString "__next__") ty F.slot_enumerate_next
    (wpAny_call_entry F.slot_enumerate_next ty F.entry_enumerate_next ?_ (F.args_enumerate_next_1 _))))
  show wpAny _ _ (field (.ref e) 2 >>= _) _ _ _
  refine wpAny_bind (wpAny_field he rfl (x := .ref it) rfl (wpAny_bind (inner _ _ _ ha fun g x gg hx => ?_)))
  obtain ⟨o, ho, hc⟩ := hx
  exact wpAny_bind (wpAny_isInstance (T := "StopIteration") (b := true) ⟨o, ho, hc⟩ isSubtype_stop (wpAny_pure (q g gg)))
end
end DR

set_option Elab.async false
set_option linter.all false
set_option maxRecDepth 100000
set_option maxHeartbeats 4000000
namespace DR
open PySem PySem.W PyProof.Rows L2
open PySem.AutoSeq1 (wpAny_loadPart')
/-- pairs of two lists, numbered: as the lists stand at each turn -/
def Itez (K : PySem.W.Frag) (a b : Addr) : It :=
  ⟨fun i H => ∃ (xs ys : List V) (x y : V), SqL K H a xs ∧ SqL K H b ys ∧ xs[i]? = some x ∧ ys[i]? = some y,
    fun i H v H' => ∃ T U x y, v = .ref U ∧ H T = none ∧ H U = none ∧ U ≠ T ∧ H' = upd (upd H T (.tup [x, y])) U (.tup [.int (i : Nat), .ref T]) ∧ (∀ xs, SqL K H a xs → xs[i]? = some x) ∧ ∀ ys, SqL K H b ys → ys[i]? = some y,
    fun i H => ∃ xs ys : List V, SqL K H a xs ∧ SqL K H b ys ∧ xs.length ≤ i⟩
structure EApart (e z TI TO i1 i2 : Addr) : Prop where
  z : e ≠ z
  TI : e ≠ TI
  TO : e ≠ TO
  i1 : e ≠ i1
  i2 : e ≠ i2
def EzSt (e z TI TO i1 i2 a b : Addr) (i : Nat) (h : Heap) : Prop := (∃ old, IsEnum h e z ((i : Nat) : Int) old) ∧ ZOk h z TI TO ∧ IsPair h TI (.ref i1) (.ref i2) ∧ (∃ x y, IsPair h TO x y) ∧ h.IsListIter i1 a i ∧ h.IsListIter i2 b i
theorem turn_ez {P : Program} {w : World} {K : PySem.W.Frag} {elts : List Expr} {kk : Nat} {tpos : Pos} {a b e z TI TO i1 i2 : Addr} (D : ZipApart z TI TO i1 i2 a b) (N : EApart e z TI TO i1 i2) :
    Turn P w K (.Tuple elts kk tpos) (Itez K a b) [e, z, TI, TO, i1, i2] e (EzSt e z TI TO i1 i2 a b) where
  mem := by simp
  obj := fun i h st c hc => by
    obtain ⟨⟨old, he⟩, hz, hI, ⟨x, y, hO⟩, ⟨o1, e1, _, d1⟩, ⟨o2, e2, _, d2⟩⟩ := st
    obtain ⟨v0, f, hz⟩ := hz.at
    have e' : c = e ∨ c = z ∨ c = TI ∨ c = TO ∨ c = i1 ∨ c = i2 := by simpa using hc
    rcases e' with r | r | r | r | r | r
    · exact r ▸ ⟨_, he, fun v t => nomatch t⟩
    · exact r ▸ ⟨_, hz, fun v t => nomatch t⟩
    · exact r ▸ ⟨_, hI, fun v t => nomatch t⟩
    · exact r ▸ ⟨_, hO, fun v t => nomatch t⟩
    · exact r ▸ ⟨o1, e1, fun v t => by rw [d1] at t; cases t⟩
    · exact r ▸ ⟨o2, e2, fun v t => by rw [d2] at t; cases t⟩
  keep := fun i h h' st k => by
    obtain ⟨⟨old, he⟩, hz, hI, ⟨x, y, hO⟩, h1, h2⟩ := st
    refine ⟨⟨old, k e (by simp) _ he⟩, ?_, k TI (by simp) _ hI, ⟨x, y, k TO (by simp) _ hO⟩, h1.at fun o t => k i1 (by simp) o t, h2.at fun o t => k i2 (by simp) o t⟩
    rcases hz with hz | ⟨T, f, hz⟩
    · exact .inl (k z (by simp) _ hz)
    · exact .inr ⟨T, f, k z (by simp) _ hz⟩
  item := by
    intro X hP hw hK hc i pins s σ H E I hf st hg
    subst hP hw hK
    obtain ⟨⟨old, he⟩, hz, hI, ⟨x0, y0, hO⟩, h1, h2⟩ := st
    obtain ⟨xs, ys, x, y, sx, sy, hx, hy⟩ := hg
    obtain ⟨its, rv, p, _⟩ := I.list sx
    obtain ⟨its2, rv2, p2, _⟩ := I.list sy
    obtain ⟨u, hu, ru⟩ := rv.get hx
    obtain ⟨u2, hu2, ru2⟩ := rv2.get hy
    have el : e < s.heap.objs.size := Heap.lt_size he
    have lts : ∀ {c o}, s.heap.get? c = some o → c < s.heap.objs.size := fun t => Heap.lt_size t
    have zl : z < s.heap.objs.size := by
      obtain ⟨v0, f, t⟩ := hz.at
      exact lts t
    have Il : TI < s.heap.objs.size := lts hI
    have Ol : TO < s.heap.objs.size := lts hO
    have il1 : i1 < s.heap.objs.size := by
      obtain ⟨_, t, _⟩ := h1
      exact lts t
    have il2 : i2 < s.heap.objs.size := by
      obtain ⟨_, t, _⟩ := h2
      exact lts t
    refine en_next (v := .ref s.heap.objs.size) (G := ZTo s z TI TO i1 i2 a b i i u u2) he (fun A E R r => zn_item D hz hI hO h1 h2 p.isList p2.isList (x := u) (y := u2) (by simpa using hu) (by simpa using hu2) r) (fun g t => t.rest _ _ N.z N.TO N.i1 N.i2 he) fun g h' t ho hU sz rest => ?_
    have gs : s.heap.objs.size < g.objs.size := by
      rw [t.sz]
      exact Nat.lt_succ_self _
    have eg : e < g.objs.size := Nat.lt_trans el gs
    refine ⟨_, rfl, wpAny_letOwnedTupleGo_enum (s := { s with heap := h', toks := s.toks + 1 }) ho fun h'' he' sb => ?_⟩
    -- the zip's tuple
    have newT : ObjOk X.prog X.w (upd H s.heap.objs.size (.tup [x, y])) g s.heap.objs.size (.tup [x, y]) := ⟨by show 2 ≤ sizeLine; decide, [u, u2], .cons ru (.cons ru2 .nil), ⟨_, t.new, rfl, _, rfl⟩⟩
    have I1 : Inv X pins σ (upd H s.heap.objs.size (.tup [x, y])) { s with heap := g } :=
      I.turnedNew (t' := s.toks) (ch := [e, z, TI, TO, i1, i2]) (fun c o hb q => t.rest c o (fun r => hb (by simp [r])) (fun r => hb (by simp [r])) (fun r => hb (by simp [r])) (fun r => hb (by simp [r])) q) hf (Nat.le_refl _) newT
    have hf1 : ∀ c ∈ [e, z, TI, TO, i1, i2], FpOk X pins (upd H s.heap.objs.size (.tup [x, y])) c := fun c hc => by
      have cl : c < s.heap.objs.size := by
        have e' : c = e ∨ c = z ∨ c = TI ∨ c = TO ∨ c = i1 ∨ c = i2 := by simpa using hc
        rcases e' with r | r | r | r | r | r <;> rw [r] <;> assumption
      have q := hf c hc
      exact ⟨by rw [upd_ne (Nat.ne_of_lt cl)]; exact q.1, q.2⟩
    have U2 : h''.get? g.objs.size = some { cls := .type "tuple", data := .seq #[.int i s.toks, .ref s.heap.objs.size] } := (sb.2 _ (Nat.ne_of_gt eg)).trans hU
    have newU : ObjOk X.prog X.w (upd (upd H s.heap.objs.size (.tup [x, y])) g.objs.size (.tup [.int (i : Nat), .ref s.heap.objs.size])) h'' g.objs.size (.tup [.int (i : Nat), .ref s.heap.objs.size]) :=
      ⟨by show 2 ≤ sizeLine; decide, [.int i s.toks, .ref s.heap.objs.size], .cons ⟨_, rfl⟩ (.cons rfl .nil), ⟨_, U2, rfl, _, rfl⟩⟩
    have I2 : Inv X pins σ (upd (upd H s.heap.objs.size (.tup [x, y])) g.objs.size (.tup [.int (i : Nat), .ref s.heap.objs.size])) { s with heap := h'', toks := s.toks + 1 } :=
      Inv.turnedNew (s := { s with heap := g }) (t' := s.toks + 1) (ch := [e, z, TI, TO, i1, i2]) I1 (fun c o hb q => (sb.2 c (fun r => hb (by simp [r]))).trans (rest c o (fun r => hb (by simp [r])) q)) hf1 (Nat.le_refl _) newU
    refine ⟨.ref g.objs.size, _, I2, rfl, ⟨_, _, x, y, rfl, I.hok.fresh (Nat.le_refl _), I.hok.fresh (Nat.le_of_lt gs), Nat.ne_of_gt gs, rfl, fun ys hy => by rw [I.list_inj hy sx]; exact hx, fun l hl => by rw [I.list_inj hl sy]; exact hy⟩, ⟨⟨.ref s.heap.objs.size, ?_⟩, ?_, ?_, ?_, ?_, ?_⟩, fun c hc => ?_⟩
    · have e1 : ((i + 1 : Nat) : Int) = (i : Int) + 1 := by omega
      rw [e1]
      exact he'
    · have up : ∀ o, g.get? z = some o → h''.get? z = some o := fun o q => (sb.2 _ N.z.symm).trans (rest _ _ N.z.symm q)
      rcases t.ok with r | ⟨T, f, r⟩
      · exact .inl (up _ r)
      · exact .inr ⟨T, f, up _ r⟩
    · exact (sb.2 _ N.TI.symm).trans (rest _ _ N.TI.symm (t.rest _ _ D.TIz D.TITO D.TIi1 D.TIi2 hI))
    · obtain ⟨a', b', q⟩ := t.pr
      exact ⟨a', b', (sb.2 _ N.TO.symm).trans (rest _ _ N.TO.symm q)⟩
    · exact (t.one.at fun o q => (rest _ o N.i1.symm q)).at fun o q => (sb.2 _ N.i1.symm).trans q
    · exact (t.two.at fun o q => (rest _ o N.i2.symm q)).at fun o q => (sb.2 _ N.i2.symm).trans q
    · have cl : c < s.heap.objs.size := by
        have e' : c = e ∨ c = z ∨ c = TI ∨ c = TO ∨ c = i1 ∨ c = i2 := by simpa using hc
        rcases e' with r | r | r | r | r | r <;> rw [r] <;> assumption
      rw [upd_ne (Nat.ne_of_lt (Nat.lt_trans cl gs)), upd_ne (Nat.ne_of_lt cl)]
      exact (hf c hc).1
  done := by
    intro X hP hw hK hc i pins s σ H E I hf st hg
    subst hP hw hK
    obtain ⟨⟨old, he⟩, hz, hI, ⟨x0, y0, hO⟩, h1, h2⟩ := st
    obtain ⟨xs, ys, sx, sy, hle⟩ := hg
    obtain ⟨its, rv, p, _⟩ := I.list sx
    obtain ⟨its2, rv2, p2, _⟩ := I.list sy
    have ll := rv.length
    exact en_end (G := fun g => ∀ c o, c ≠ z → c ≠ i1 → c ≠ i2 → s.heap.get? c = some o → g.get? c = some o) (I.ok.hd hc) he (fun A E R ha r => zn_end ha D hz hI h1 h2 p.isList p2.isList (by simp; omega) fun h' x k t => r h' x k t)
      fun g k => ⟨rfl, I.turnedL (t' := s.toks) (ch := [e, z, TI, TO, i1, i2]) (fun c o hb q => k c o (fun r => hb (by simp [r])) (fun r => hb (by simp [r])) (fun r => hb (by simp [r])) q) hf⟩
  self := fun A i s Q E st h => let ⟨⟨_, he⟩, _⟩ := st; wpAny_pyIter_enum he h
theorem meets_en_zip (z TI TO : Addr) :
    Meets (Builtin.«enumerate.__new__» ⟨[.type "enumerate", .ref z], []⟩) (fun _ R s => IsZip s.heap z TI TO .none ∧
      R (.ok (.ret (.ref s.heap.objs.size))) { s with heap := s.heap.push { cls := .type "enumerate", data := .fields #[.none, .bool false, .ref z, rawInt 0, .none, .none] } }) :=
  .of_wp fun prog w A R s h => by
    obtain ⟨hp, g, d, tk, os⟩ := s
    obtain ⟨hz, h⟩ := h
    have hsub := sub_enumerate
    have it : ∀ {A' : Around} {E : Value → Shared → Prop} {Q : Value → Shared → Prop}, Q (.ref z) ⟨hp, g, d, tk, os⟩ → wpAny (model prog w) A' (pyIter (.ref z)) Q E ⟨hp, g, d, tk, os⟩ := fun q => wpAny_pyIter_zip hz q
    wp_walk using it
    refine wpAny_stack_any fun st => wpAny_pure ?_
    split
    · rename_i c _ _ _ _ _
      cases (c == Value.type "enumerate")
      · wp_walk using it
        exact ⟨_, rfl, h⟩
      · wp_walk using it
        exact ⟨_, rfl, h⟩
    · wp_walk using it
      exact ⟨_, rfl, h⟩
theorem call_en_zip {prog : Program} {w : World} {A : Around} {E : Value → Shared → Prop} {s : Shared} {z TI TO : Addr} {Q : Value → Shared → Prop} (hz : IsZip s.heap z TI TO .none)
    (q : ∀ h', IsEnum h' s.heap.objs.size z 0 .none → h'.objs.size = s.heap.objs.size + 1 → (∀ b o, s.heap.get? b = some o → h'.get? b = some o) → Q (.ref s.heap.objs.size) { s with heap := h' }) :
    wpAny (model prog w) A (call (.type "enumerate") [.ref z]) Q E s := by
  refine callType_new F.called_enumerate (by decide) (F.typeCall_enumerate_1 _) (F.newCall_enumerate_1 _) (fun obj => F.args_object_init_2 obj _) F.entry_enumerate_new (meets_en_zip z TI TO) ⟨hz, ?_⟩
  have he : IsEnum (s.heap.push { cls := .type "enumerate", data := .fields #[.none, .bool false, .ref z, rawInt 0, .none, .none] }) s.heap.objs.size z 0 .none := Heap.get?_push_size _ rfl
  exact ⟨⟨_, he, rfl⟩, q _ he (Heap.size_push ..) fun b o x => Heap.get?_push_of_some _ x⟩
def iEz (K : PySem.W.Frag) (ta : TA) : TI := fun σ H R => ta σ H fun vs H1 => ∃ a b xs ys, vs = [.ref a, .ref b] ∧ SqL K H1 a xs ∧ SqL K H1 b ys ∧ R (Itez K a b) H1
theorem pi_enumzip {X : Cx} {e e2 : Expr} {ta : TA} {p pos p2 pos2 tpos : Pos} {elts : List Expr} {kk : Nat} (hg : Gl X "enumerate") (hm : X.mg "enumerate" = none) (hg2 : Gl X "zip") (hm2 : X.mg "zip" = none) (ha : PA X [e, e2] ta)
    (hs1 : starEach [.Call (.Name "zip" p2) [e, e2] [] pos2] X.env = [(false, eval (.Call (.Name "zip" p2) [e, e2] [] pos2) X.env)] := by rfl)
    (hs : starEach [e, e2] X.env = (false, eval e X.env) :: starEach [e2] X.env := by rfl) (hpl : (backTo pos2 (starEach [e2] X.env)).any (·.1) = false := by rfl) :
    PI X (.Tuple elts kk tpos) (.Call (.Name "enumerate" p) [.Call (.Name "zip" p2) [e, e2] [] pos2] [] pos) (iEz X.K ta) := by
  refine ⟨fun pins s σ H R I h => ?_⟩
  refine Call_ (ld_blt I hg hm boot_enumerate (PyProof.Rows.callWith_type1 ?_ hs1 rfl))
  rw [hs1]
  show wpAny _ _ (spliced ((false, eval (.Call (.Name "zip" p2) [e, e2] [] pos2) X.env) :: backTo pos [])) _ _ s
  refine Calls.spliced_cons ?_
  refine Call_ (ld_blt I hg2 hm2 PyProof.Rows.boot_zip (PyProof.Rows.callWith_type1 (thn (ha.run pos2 pins s σ H _ I h) fun us s1 ⟨vs, H1, I1, r1, q1⟩ => ?_) hs hpl))
  obtain ⟨a, b, xs, ys, ex, sx, sy, q⟩ := q1
  subst ex
  cases r1 with
  | cons r rr =>
    cases rr with
    | cons r' rr =>
      cases rr
      cases r
      cases r'
      obtain ⟨its, rv, l1, _⟩ := I1.list sx
      obtain ⟨its2, rv2, l2, _⟩ := I1.list sy
      refine call_zip_2 l1.isList l2.isList fun h' hz hI hO h1 h2 sz k => ?_
      refine Calls.spliced_nil ?_
      refine call_en_zip (s := { s1 with heap := h' }) hz fun g he sg kg => wpAny_pyIter_enum he ?_
      have I2 : Inv X pins σ H1 { s1 with heap := g } := I1.kept (t' := s1.toks) fun b u t => kg b u (k b u t)
      have se : h'.objs.size = s1.heap.objs.size + 5 := sz
      have N : EApart h'.objs.size (s1.heap.objs.size + 4) (s1.heap.objs.size + 2) (s1.heap.objs.size + 3) s1.heap.objs.size (s1.heap.objs.size + 1) := by
        rw [se]
        constructor <;> (refine PySem.W.neN ?_; omega)
      refine ⟨h'.objs.size, [h'.objs.size, s1.heap.objs.size + 4, s1.heap.objs.size + 2, s1.heap.objs.size + 3, s1.heap.objs.size, s1.heap.objs.size + 1], _, _, H1, rfl, I2, turn_ez (PySem.W.ktu_apart s1.heap.objs.size a b l1.lt l2.lt) N,
        ⟨⟨.none, he⟩, .inl (kg _ _ hz), kg _ _ hI, ⟨_, _, kg _ _ hO⟩, h1.at fun o t => kg _ o t, h2.at fun o t => kg _ o t⟩, fun c hc => ?_, q⟩
      have hle : s1.heap.objs.size ≤ c := by
        have e' : c = h'.objs.size ∨ c = s1.heap.objs.size + 4 ∨ c = s1.heap.objs.size + 2 ∨ c = s1.heap.objs.size + 3 ∨ c = s1.heap.objs.size ∨ c = s1.heap.objs.size + 1 := by simpa using hc
        rcases e' with z | z | z | z | z | z
        · rw [z, se]
          exact Nat.le_add_right _ _
        · rw [z]
          exact Nat.le_add_right _ _
        · rw [z]
          exact Nat.le_add_right _ _
        · rw [z]
          exact Nat.le_add_right _ _
        · rw [z]
          exact Nat.le_refl _
        · rw [z]
          exact Nat.le_add_right _ _
      exact I1.fpOk hle (I1.hok.fresh hle)
end DR

set_option Elab.async false
set_option linter.all false
set_option maxRecDepth 100000
set_option maxHeartbeats 4000000
/-! ### orders in the store -/
namespace DR
open PySem PySem.Spec PyProof.Rows L2
theorem di_eqv (ns ms : List Int) : PyData.eqv (.list (ns.map .int)) (.list (ms.map .int)) = decide (ns = ms) := by
  have key : ∀ ns ms : List Int, PyData.eqvAll (ns.map .int) (ms.map .int) = decide (ns = ms) := by
    intro ns
    induction ns with
    | nil =>
      intro ms
      cases ms <;> simp [PyData.eqvAll]
    | cons p ns ih =>
      intro ms
      cases ms with
      | nil => simp [PyData.eqvAll]
      | cons q ms =>
        rw [List.map_cons, List.map_cons]
        rw [Bool.eq_iff_iff]
        simp [PyData.eqvAll, ih, PyData.eqv]
  rw [← key ns ms]
  simp [PyData.eqv]
theorem di_lay : ∀ ns : List Int, PyData.canLayAll0 (ns.map .int) = true
  | [] => by simp [PyData.canLayAll0]
  | p :: ns => by simp [PyData.canLayAll0, PyData.canLay0, di_lay ns]
theorem di_depth : ∀ ns : List Int, PyData.depthAll (ns.map .int) = 0
  | [] => by simp [PyData.depthAll]
  | p :: ns => by simp [PyData.depthAll, PyData.depth, di_depth ns]
theorem di_shaped (ns : List Int) : SeqAt.shaped (.list (ns.map .int)) = true := by
  have := di_depth ns
  simp [SeqAt.shaped, PyData.canLay0, di_lay, PyData.depth]
  omega
theorem di_all {K : PySem.W.Frag} {H : Hp} : ∀ ns : List Int, DpAll K H (ns.map V.int) (ns.map .int)
  | [] => .nil
  | n :: ns => .cons (.int n) (di_all ns)
theorem di_dp {K : PySem.W.Frag} {H : Hp} {l : Addr} {ns : List Int} (h : SqL K H l (ns.map V.int)) : Dp K H (.ref l) (.list (ns.map .int)) := .lst h (di_all ns)
/-- the numbers from 0 on -/
def upTo (n : Nat) : List Int := (List.range n).map fun i : Nat => (i : Int)
theorem rgV_upTo (n : Nat) : rgV 0 (n : Int) = (upTo n).map V.int := by
  unfold rgV upTo
  rw [List.map_map, Int.sub_zero, Int.toNat_natCast]
  refine List.map_congr_left fun i _ => ?_
  show V.int (0 + (i : Int)) = V.int (i : Int)
  rw [Int.zero_add]
theorem upTo_len (n : Nat) : (upTo n).length = n := by simp [upTo]
theorem upTo_sorted (n : Nat) : (upTo n).Pairwise (· ≤ ·) := by
  unfold upTo
  rw [List.pairwise_map]
  exact (List.pairwise_lt_range (n := n)).imp fun h => by omega
theorem upTo_nodup (n : Nat) : (upTo n).Nodup := by
  unfold upTo
  refine List.Pairwise.map _ (fun a b h => ?_) List.nodup_range
  omega
def IsOrd (n : Nat) (os : List Int) : Prop := os.Perm (upTo n)
theorem IsOrd.len {n : Nat} {os : List Int} (h : IsOrd n os) : os.length = n := by
  rw [List.Perm.length_eq h, upTo_len]
theorem sorted_eq : ∀ {a b : List Int}, a.Perm b → a.Pairwise (· ≤ ·) → b.Pairwise (· ≤ ·) → a = b
  | [], b, p, _, _ => (List.nil_perm.mp p).symm
  | x :: a, b, p, ha, hb => by
    cases b with
    | nil => exact absurd p.symm (by simp)
    | cons y b =>
      have hx : ∀ z ∈ x :: a, x ≤ z := fun z hz => by
        rcases List.mem_cons.mp hz with e | e
        · omega
        · exact (List.pairwise_cons.mp ha).1 z e
      have hy : ∀ z ∈ y :: b, y ≤ z := fun z hz => by
        rcases List.mem_cons.mp hz with e | e
        · omega
        · exact (List.pairwise_cons.mp hb).1 z e
      have e : x = y := by
        have h1 := hx y (p.mem_iff.mpr List.mem_cons_self)
        have h2 := hy x (p.mem_iff.mp List.mem_cons_self)
        omega
      subst e
      rw [sorted_eq ((List.perm_cons _).mp p) (List.pairwise_cons.mp ha).2 (List.pairwise_cons.mp hb).2]
theorem IsOrd.sort {n : Nat} {os ns : List Int} (h : IsOrd n os) (p : ns.Perm os) (s : ns.Pairwise (· ≤ ·)) : ns = upTo n := sorted_eq (p.trans h) s (upTo_sorted n)
theorem IsOrd.perm {n : Nat} {os ns : List Int} (h : IsOrd n os) (p : ns.Perm os) : IsOrd n ns := List.Perm.trans p h
/-- over the pairs of two lists, numbered -/
theorem lc_ez {K : PySem.W.Frag} {a b : Addr} {xs ys : List V} {g : TG} {tt : TT} {te : TE} {vs : List Nat} {σ : L2.St} {H1 : Hp} {D : Addr} {Qd : Hp → Prop} (Pv : Nat → Hp → Prop) (h0 : Pv 0 (upd H1 D (.lst [])))
    (hl : ∀ i H, i ≤ xs.length → Pv i H → SqL K H a xs ∧ SqL K H b ys) (ly : ys.length = xs.length)
    (hs : ∀ i x y H T U, xs[i]? = some x → ys[i]? = some y → Pv i H → H T = none → H U = none → U ≠ T → g (.ref U) (wipe σ vs) (upd (upd H T (.tup [x, y])) U (.tup [.int (i : Nat), .ref T])) fun σ2 H2 => wipe σ2 vs = wipe σ vs ∧ tt σ2 H2 fun b H3 =>
      if b = true then te σ2 H3 fun y H4 => ∃ acc, H4 D = some (.lst acc) ∧ acc.length < sizeLine ∧ Pv (i + 1) (upd H4 D (.lst (acc ++ [y]))) else Pv (i + 1) H3) (hd : ∀ H, Pv xs.length H → Qd H) :
    ∃ W : Nat → Nat → Hp → Prop, (∃ m, W 0 m (upd H1 D (.lst []))) ∧ ∀ i m H, W i m H →
      ((Itez K a b).stop i H ∧ Qd H) ∨ ((Itez K a b).go i H ∧ ∃ Nx : Hp → Prop, (∀ H', Nx H' → ∃ m', m' < m ∧ W (i + 1) m' H') ∧ ∀ x H', (Itez K a b).yld i H x H' → g x (wipe σ vs) H' fun σ2 H2 => wipe σ2 vs = wipe σ vs ∧ tt σ2 H2 fun b H3 =>
        if b = true then te σ2 H3 fun y H4 => ∃ acc, H4 D = some (.lst acc) ∧ acc.length < sizeLine ∧ Nx (upd H4 D (.lst (acc ++ [y]))) else Nx H3) := by
  refine ⟨fun i m H => m = xs.length - i ∧ i ≤ xs.length ∧ Pv i H, ⟨xs.length, by simp, Nat.zero_le _, h0⟩, ?_⟩
  rintro i m H ⟨rfl, hi, p⟩
  obtain ⟨q1, q2⟩ := hl i H hi p
  by_cases hlt : i < xs.length
  · refine .inr ⟨⟨xs, ys, xs[i], ys[i]'(by omega), q1, q2, by simp [hlt], by simp⟩, Pv (i + 1), fun H' p' => ⟨xs.length - (i + 1), by omega, rfl, hlt, p'⟩, fun v H' y => ?_⟩
    obtain ⟨T, U, x, y, rfl, hT, hU, ne, rfl, hx, hy⟩ := y
    exact hs i x y H T U (hx xs q1) (hy ys q2) p hT hU ne
  · have e : i = xs.length := by omega
    subst e
    exact .inl ⟨⟨xs, ys, q1, q2, Nat.le_refl _⟩, hd H p⟩
theorem cut_to (xs : List V) (k : Nat) : cutV xs none (some (k : Int)) = xs.take k := by
  unfold cutV
  rw [HT.sIx_nat, HT.sIx_none, Nat.sub_zero, List.drop_zero]
  by_cases h : k ≤ xs.length
  · rw [Nat.min_eq_left h]
  · rw [Nat.min_eq_right (by omega), List.take_of_length_le (Nat.le_refl _), List.take_of_length_le (by omega)]
/-- an order stands there -/
def OrdAt (H : Hp) (l : Addr) (os : List Int) : Prop := H l = some (.lst (os.map V.int))
theorem OrdAt.same {H H' : Hp} {l : Addr} {os : List Int} (h : OrdAt H l os) (s : Same H H') : OrdAt H' l os := s _ _ h
theorem OrdAt.sq {K : PySem.W.Frag} {H : Hp} {l : Addr} {os : List Int} (h : OrdAt H l os) : SqL K H l (os.map V.int) := SqL.of h
theorem OrdAt.at_ {H : Hp} {l : Addr} {os : List Int} (_ : OrdAt H l os) {i : Nat} (hi : i < os.length) : atI (os.map V.int) (i : Int) = some (.int (os.getD i 0)) := by
  refine atI_nat ?_
  rw [List.getElem?_map, List.getElem?_eq_getElem hi, List.getD_eq_getElem?_getD, List.getElem?_eq_getElem hi]
  rfl
theorem OrdAt.atI_end {H : Hp} {l : Addr} {os : List Int} (_ : OrdAt H l os) (h : 0 < os.length) : atI (os.map V.int) (-1) = some (.int (os.getD (os.length - 1) 0)) := by
  have e : os = os.dropLast ++ [os.getD (os.length - 1) 0] := by
    have ne : os ≠ [] := fun z => by
      rw [z] at h
      cases h
    have := (List.dropLast_concat_getLast ne).symm
    rw [List.getLast_eq_getElem] at this
    rw [List.getD_eq_getElem?_getD, List.getElem?_eq_getElem (by omega)]
    exact this
  have e2 : os.map V.int = os.dropLast.map V.int ++ [V.int (os.getD (os.length - 1) 0)] := by
    conv => lhs; rw [e]
    rw [List.map_append]
    rfl
  rw [e2, atI_last]
/-- a number or None -/
def optV : Option Nat → V
  | none => .non
  | some b => .int (b : Int)
end DR

set_option Elab.async false
set_option linter.all false
set_option maxRecDepth 100000
set_option maxHeartbeats 4000000
namespace DR
open PySem PySem.Spec PyProof.Rows L2
/-! ### data whose lists are all of the kind N -/
def DatL (N : Addr → Prop) (H : Hp) : Nat → V → PyData → Prop
  | 0, v, d => Dat0 v d
  | k + 1, v, d => Dat0 v d ∨ ∃ a xs ds, v = .ref a ∧ ((N a ∧ H a = some (.lst xs) ∧ d = .list ds) ∨ (H a = some (.tup xs) ∧ d = .tuple ds)) ∧ xs.length ≤ 1000 ∧ Paired (DatL N H k) xs ds
theorem DatL.of0 {N : Addr → Prop} {H : Hp} {k : Nat} {v : V} {d : PyData} (h : Dat0 v d) : DatL N H k v d := by
  cases k with
  | zero => exact h
  | succ k => exact .inl h
theorem DatL.int {N : Addr → Prop} {H : Hp} {k : Nat} (i : Int) : DatL N H k (.int i) (.int i) := DatL.of0 (.inl ⟨i, rfl, rfl⟩)
theorem DatL.str {N : Addr → Prop} {H : Hp} {k : Nat} (x : Str) (h : PyData.strOk x = true) : DatL N H k (.str x) (.str x) := DatL.of0 (.inr ⟨x, rfl, rfl, h⟩)
theorem DatL.tup {N : Addr → Prop} {H : Hp} {k : Nat} {a : Addr} {xs : List V} {ds : List PyData} (e : H a = some (.tup xs)) (l : xs.length ≤ 1000) (p : Paired (DatL N H k) xs ds) : DatL N H (k + 1) (.ref a) (.tuple ds) := .inr ⟨a, xs, ds, rfl, .inr ⟨e, rfl⟩, l, p⟩
theorem DatL.lst {N : Addr → Prop} {H : Hp} {k : Nat} {a : Addr} {xs : List V} {ds : List PyData} (e : H a = some (.lst xs)) (na : N a) (l : xs.length ≤ 1000) (p : Paired (DatL N H k) xs ds) : DatL N H (k + 1) (.ref a) (.list ds) := .inr ⟨a, xs, ds, rfl, .inl ⟨na, e, rfl⟩, l, p⟩
theorem DatL.imp {N N' : Addr → Prop} {H : Hp} (n : ∀ a, N a → N' a) : ∀ {k : Nat} {v : V} {d : PyData}, DatL N H k v d → DatL N' H k v d
  | 0, _, _, h => h
  | k + 1, v, d, h => by
    rcases h with h | ⟨a, xs, ds, h1, h2, h3, h4⟩
    · exact .inl h
    · exact .inr ⟨a, xs, ds, h1, h2.elim (fun h => .inl ⟨n _ h.1, h.2⟩) .inr, h3, Paired.mapP h4 fun a b h => DatL.imp n h⟩
theorem DatL.same {N : Addr → Prop} {H H' : Hp} (s : Same H H') : ∀ {k : Nat} {v : V} {d : PyData}, DatL N H k v d → DatL N H' k v d
  | 0, _, _, h => h
  | k + 1, v, d, h => by
    rcases h with h | ⟨a, xs, ds, h1, h2, h3, h4⟩
    · exact .inl h
    · exact .inr ⟨a, xs, ds, h1, h2.elim (fun h => .inl ⟨h.1, s _ _ h.2.1, h.2.2⟩) (fun h => .inr ⟨s _ _ h.1, h.2⟩), h3, Paired.mapP h4 fun a b h => DatL.same s h⟩
theorem DatL.up1 {N : Addr → Prop} {H : Hp} : ∀ {k : Nat} {v : V} {d : PyData}, DatL N H k v d → DatL N H (k + 1) v d
  | 0, _, _, h => .inl h
  | k + 1, v, d, h => by
    rcases h with h | ⟨a, xs, ds, h1, h2, h3, h4⟩
    · exact .inl h
    · exact .inr ⟨a, xs, ds, h1, h2, h3, Paired.mapP h4 fun a b h => DatL.up1 h⟩
theorem DatL.up {N : Addr → Prop} {H : Hp} {j k : Nat} {v : V} {d : PyData} (h : DatL N H j v d) (l : j ≤ k) : DatL N H k v d := by
  induction l with
  | refl => exact h
  | step _ ih => exact ih.up1
theorem DatL.dat {N : Addr → Prop} {H : Hp} : ∀ {k : Nat} {v : V} {d : PyData}, DatL N H k v d → Dat (fun _ => True) H k v d
  | 0, _, _, h => h
  | k + 1, v, d, h => by
    rcases h with h | ⟨a, xs, ds, h1, h2, h3, h4⟩
    · exact .inl h
    · exact .inr ⟨a, xs, ds, h1, trivial, h2.elim (fun h => .inl h.2) .inr, h3, Paired.mapP h4 fun a b h => DatL.dat h⟩
theorem pairedL {α β γ : Type} {F : γ → β → Prop} (f : α → γ) (g : α → β) : ∀ {l : List α}, (∀ x ∈ l, F (f x) (g x)) → Paired F (l.map f) (l.map g)
  | [], _ => .nil
  | x :: l, h => .cons (h x (by simp)) (pairedL f g fun y hy => h y (List.mem_cons_of_mem _ hy))
abbrev intsD (os : List Int) : PyData := .list (os.map .int)
abbrev pairsD (ps : List (Int × Int)) : PyData := .list (ps.map pd)
theorem OrdAt.datL {N : Addr → Prop} {H : Hp} {l : Addr} {os : List Int} (h : OrdAt H l os) (nl : N l) (le : os.length ≤ 1000) : DatL N H 1 (.ref l) (intsD os) :=
  DatL.lst h nl (by rw [List.length_map]; exact le) (pairedL V.int PyData.int fun x _ => DatL.int x)
theorem tups_datL {N : Addr → Prop} {H : Hp} : ∀ {as : List Addr} {ps : List (Int × Int)}, TupsAt H as ps → Paired (DatL N H 1) (as.map V.ref) (ps.map pd)
  | _, _, .nil => .nil
  | _, _, .cons r t => .cons (DatL.tup r (by show 2 ≤ 1000; decide) (.cons (DatL.int _) (.cons (DatL.int _) .nil))) (tups_datL t)
theorem PairsAt.datL {N : Addr → Prop} {H : Hp} {l : Addr} {ps : List (Int × Int)} (h : PairsAt H l ps) (nl : N l) (le : ps.length ≤ 1000) : DatL N H 2 (.ref l) (pairsD ps) := by
  obtain ⟨as, e, t⟩ := h
  exact DatL.lst e nl (by rw [List.length_map, t.length]; exact le) (tups_datL t)
/-- == of deep data -/
def rEqDd (K : PySem.W.Frag) : R2 := fun x y H Q => ∃ d e, Dp K H x d ∧ Dp K H y e ∧ d.canLay0 = true ∧ e.canLay0 = true ∧ d.depth ≤ 150 ∧ Q (.bl (PyData.eqv d e)) H
theorem op_eqDd {X : Cx} (hu : X.A.units + 150 < cLine) : OpR X (compareOp .Eq) (rEqDd X.K) := by
  intro pins s σ H x y v u Q I rx ry h
  obtain ⟨d, e, hd, he, sd, se, dd, q⟩ := h
  obtain ⟨as, r1⟩ := Dp.reads I d x v hd rx
  obtain ⟨bs, r2⟩ := Dp.reads I e y u he ry
  exact SeqAt.compareEq_reads r1 r2 sd se (Nat.lt_of_le_of_lt (Nat.add_le_add_left (Nat.le_trans (Nat.min_le_left _ _) dd) _) hu) ⟨.bl _, H, I, rfl, q⟩
end DR
namespace DR
open PySem PySem.Spec PyProof.Rows L2
theorem DatL.kpF {N : Addr → Prop} {H H2 : Hp} {F : Addr} {xs0 : List V} (n : ∀ a, N a → a ≠ F) (eF : H F = some (.lst xs0)) (s : Kp F H H2) : ∀ {k : Nat} {v : V} {d : PyData}, DatL N H k v d → DatL N H2 k v d
  | 0, _, _, h => h
  | k + 1, v, d, h => by
    rcases h with h | ⟨a, xs, ds, h1, h2, h3, h4⟩
    · exact .inl h
    · exact .inr ⟨a, xs, ds, h1, h2.elim (fun h => .inl ⟨h.1, s _ _ (n a h.1) h.2.1, h.2.2⟩) (fun h => .inr ⟨s _ _ (ne_of h.1 eF (by intro z; cases z)) h.1, h.2⟩), h3, Paired.mapP h4 fun a b h => DatL.kpF n eF s h⟩
theorem nokp {H H2 : Hp} {F z : Addr} {o o2 : HO} (k : Kp F H H2) (eF : H F = some o) (e2 : H2 F = some o2) (nz : H2 z = none) : H z = none := by
  cases e : H z with
  | none => rfl
  | some u =>
    by_cases c : z = F
    · rw [c, e2] at nz
      cases nz
    · rw [k _ _ c e] at nz
      cases nz
end DR

set_option Elab.async false
set_option linter.all false
set_option maxRecDepth 100000
set_option maxHeartbeats 4000000
namespace DR
open PySem PySem.Spec PyProof.Rows L2
/-! #### written -/
def tJoin (ts : List TE) : TE := fun σ H Q => tJs ts Str.empty σ H fun out H1 => Q (.str out) H1
theorem pe_joinT {X : Cx} {v1 v2 : Expr} {rest : List Expr} {ts : List TE} {pos : Pos} (h : PJ X (v1 :: v2 :: rest) ts) : PE X (.JoinedStr (v1 :: v2 :: rest) pos) (tJoin ts) := pe_joined h
abbrev numS (i : Int) : Str := toString i
def rowTie (p : Int × Int) : Str := Str.empty ++ "tie " ++ numS p.1 ++ " " ++ numS p.2
def rowYard (n : Nat) : Str := Str.empty ++ "yard " ++ numS (n : Int)
def textOf (n : Nat) (ps : List (Int × Int)) : Str := Txt.join "\n" (rowYard n :: ps.map rowTie)
theorem numS_nat : ∀ i : Nat, i < 31 → (numS (i : Int)).length ≤ 2 := by decide +kernel
theorem numS_len {i : Int} (h0 : 0 ≤ i) (h1 : i ≤ 30) : (numS i).length ≤ 2 := by
  obtain ⟨j, rfl⟩ : ∃ j : Nat, i = (j : Int) := ⟨i.toNat, by omega⟩
  exact numS_nat j (by omega)
theorem log_small {i : Int} (h0 : 0 ≤ i) (h1 : i ≤ 30) : i.natAbs.log2 < 1920 := by
  have : i.natAbs ≤ 30 := by omega
  have h2 : i.natAbs < 2 ^ 1920 := Nat.lt_of_le_of_lt this (Nat.lt_of_lt_of_le (by decide : 30 < 2 ^ 5) (Nat.pow_le_pow_right (by decide) (by decide)))
  by_cases z : i.natAbs = 0
  · rw [z]
    decide
  · exact (Nat.log2_lt z).mpr h2
theorem app_len (a b : Str) : (a ++ b).length = a.length + b.length := by
  show (a.cps ++ b.cps).size = _
  exact Array.size_append
theorem rowTie_len {n : Nat} (n30 : n ≤ 30) {ps : List (Int × Int)} (ti : Ties n ps) {p : Int × Int} (hp : p ∈ ps) : (rowTie p).length ≤ 12 := by
  have r := ti.rng p hp
  have h1 := numS_len (i := p.1) (by omega) (by omega)
  have h2 := numS_len (i := p.2) (by omega) (by omega)
  unfold rowTie
  simp only [app_len]
  have e0 : Str.empty.length = 0 := rfl
  have e1 : ("tie " : Str).length = 4 := rfl
  have e2 : (" " : Str).length = 1 := rfl
  omega
theorem rowYard_len {n : Nat} (n30 : n ≤ 30) : (rowYard n).length ≤ 12 := by
  have h1 := numS_len (i := (n : Int)) (by omega) (by omega)
  unfold rowYard
  simp only [app_len]
  have e0 : Str.empty.length = 0 := rfl
  have e1 : ("yard " : Str).length = 5 := rfl
  omega
/-- a list of pairs, each made a text -/
theorem lc_mapS {K : PySem.W.Frag} {l D : Addr} {ps : List (Int × Int)} {H0 : Hp} {σ : L2.St} {i j : Nat} {te : TE} {Qd : Hp → Prop} (h : Int × Int → Str) (hl : PairsAt H0 l ps) (nD : H0 D = none) (len : ps.length ≤ 1000)
    (hw : ∀ a b : V, wipe (((wipe σ [i, j]).set i (some a)).set j (some b)) [i, j] = wipe σ [i, j])
    (elt : ∀ p H (R : V → Hp → Prop), p ∈ ps → Same H0 H → (∀ H', Same H H' → R (.str (h p)) H') → te (((wipe σ [i, j]).set i (some (.int p.1))).set j (some (.int p.2))) H R)
    (fin : ∀ H, Same H0 H → H D = some (.lst ((ps.map h).map V.str)) → Qd H) :
    ∃ W : Nat → Nat → Hp → Prop, (∃ m, W 0 m (upd H0 D (.lst []))) ∧ ∀ k m H, W k m H →
      ((Itl K l).stop k H ∧ Qd H) ∨ ((Itl K l).go k H ∧ ∃ Nx : Hp → Prop, (∀ H', Nx H' → ∃ m', m' < m ∧ W (k + 1) m' H') ∧ ∀ x H', (Itl K l).yld k H x H' → gTup K 2 (gCons (gName i) (gCons (gName j) gNil)) x (wipe σ [i, j]) H' fun σ2 H2 => wipe σ2 [i, j] = wipe σ [i, j] ∧ tYes σ2 H2 fun b H3 =>
        if b = true then te σ2 H3 fun y H4 => ∃ acc, H4 D = some (.lst acc) ∧ acc.length < sizeLine ∧ Nx (upd H4 D (.lst (acc ++ [y]))) else Nx H3) := by
  obtain ⟨as, el, ta⟩ := hl
  have lD : l ≠ D := ne_of_none el nD
  refine lc_list (K := K) (a := l) (xs := as.map V.ref) (g := gTup K 2 (gCons (gName i) (gCons (gName j) gNil))) (tt := tYes) (te := te) (vs := [i, j]) (σ := σ) (Pv := fun k H => Kp D H0 H ∧ H D = some (.lst (((ps.take k).map h).map V.str)))
    ⟨Kp.put _ _ _, upd_same⟩ (fun k H _ ⟨kp, _⟩ => SqL.of (kp l _ lD el)) (fun k x H hx ⟨kp, eD⟩ => ?_) (fun H ⟨kp, eD⟩ => ?_)
  · obtain ⟨a, rfl, ha⟩ := refs_at' hx
    obtain ⟨p, hp, ea⟩ := ta.at_ ha
    have s2 : Same H0 H := fun c o e => kp c o (ne_of_none e nD) e
    have hk : k < ps.length := (List.getElem?_eq_some_iff.mp hp).1
    refine ⟨a, _, rfl, SqT.of (s2 _ _ ea), rfl, _, _, rfl, _, _, rfl, rfl, hw _ _, ?_⟩
    refine elt p H _ (List.mem_of_getElem? hp) s2 fun H' s3 => ⟨_, s3 _ _ eD, ?_, fun c o nc e => ?_, ?_⟩
    · rw [List.length_map, List.length_map, List.length_take]
      exact small1000 (by omega)
    · rw [upd_ne nc]
      exact s3 c o (kp c o nc e)
    · rw [upd_same, List.take_succ, hp, List.map_append, List.map_append]
      rfl
  · refine fin H (fun c o e => kp c o (ne_of_none e nD) e) ?_
    rw [List.length_map, ta.length, List.take_length] at eD
    exact eD
section
variable {P : Program} {w : World} {K : PySem.W.Frag} {mg : Str → Option Value} {base : Heap} {C : Addr}
def spWritten (C : Addr) : Sp := fun vs H Q _ => ∃ (y : Addr) (n : Nat) (ps : List (Int × Int)), vs = [.ref y] ∧ YardAt C H y n ps ∧ Ties n ps ∧ n ≤ 30 ∧ ∀ H', Same H H' → Q (.str (textOf n ps)) H'
abbrev nWritten : List Str := ["yard", "ties", "one", "other"]
theorem scWritten : FnScope nWritten ["yard"] (defScope s_written) := ⟨rfl, rfl, rfl, by decide +kernel, rfl, by decide +kernel, by decide +kernel⟩
theorem has_written (D : IsDef K mg "written" s_written) (B : Blt mg) (T : YTxt K mg C) (TI : HasM P w K mg base C 1 "ties" ["self"] (spTies C)) (M : HasM P w K mg base C 1 "many" ["self"] (spMany C)) : Has P w K mg base 2 "written" ["yard"] (spWritten C) := by
  refine has_of D scWritten (fun _ _ _ _ _ _ us hl => match us, hl with | [_], _ => rfl) (fun vs H Q E h => ?_) (fun f cdv A outer s H vs Q E hr h => ?_)
  · obtain ⟨y, n, ps, rfl, _⟩ := h
    rfl
  · obtain ⟨y, n, ps, rfl, hy, ti, n30, q⟩ := h
    refine ⟨_, pss_cons (ps_setLc (i := 1) (own := [("one", 2), ("other", 3)]) (g := gTup K 2 (gCons (gName 2) (gCons (gName 3) gNil))) (tt := tYes) (by rfl) scWritten.nd rfl rfl (sw_true rfl rfl rfl (by decide +kernel)) (pi_list (pe_hasM0 (pv 0) T.cl TI hr (by decide))) (blkOk_by (N := nWritten) (sc := defScope s_written) (by decide +kernel))
          (fun _ _ _ _ _ => by exact (pg_tup rfl (pgs_cons (by exact (pg_name (i := 2) scWritten.nd rfl (.inl rfl))) (pgs_cons (by exact (pg_name (i := 3) scWritten.nd rfl (.inl rfl))) pgs_nil)))) (fun _ _ _ _ _ => pts_nil)
          (fun _ _ _ _ _ => pe_joinT (.cons pe_str (.cons (pe_fmt (pv 2)) (.cons pe_str (.cons (pe_fmt (pv 3)) .nil))))))
      (pss_one (ps_ret (pe_join pe_str (pe_lst (pa_cons (pe_joinT (.cons pe_str (.cons (pe_fmt (pe_hasM0 (pv 0) T.cl M hr (by decide))) .nil))) (StX.pa_star (pv 1) pa_nil)))))), ?_⟩
    obtain ⟨dx, l0, td, dg, h1, h2, h3, h4⟩ := id hy
    have l9 := ti.len900 n30
    refine ⟨_, rfl, y, dx, _, rfl, h1, look_no n l0 td dg (by decide +kernel) (by decide +kernel) (by decide +kernel) (by decide +kernel), y, n, ps, rfl, hy, fun H1 l s1 nl pl => ?_⟩
    obtain ⟨as, el, ta⟩ := id pl
    have hy1 := hy.same s1
    have e0 : Str.empty.length = 0 := rfl
    have e1 : ("tie " : Str).length = 4 := rfl
    have e2 : (" " : Str).length = 1 := rfl
    have e3 : ("yard " : Str).length = 5 := rfl
    have sl : 100 ≤ sizeLine := by decide
    refine ⟨l, rfl, ⟨_, SqL.of el⟩, fun D nD => lc_mapS rowTie pl nD (by omega) (fun _ _ => rfl) (fun p H2 R hp s2 fin => ?_) (fun H2 s2 eD => ?_)⟩
    · have r := ti.rng p hp
      have z1 : (Str.ofString (toString p.1)).length ≤ 2 := numS_len (i := p.1) (by omega) (by omega)
      have z2 : (Str.ofString (toString p.2)).length ≤ 2 := numS_len (i := p.2) (by omega) (by omega)
      refine ⟨_, rfl, by rw [app_len]; omega, _, rfl, .inr ⟨_, rfl, log_small (by omega) (by omega), _, rfl, by simp only [app_len]; omega, _, rfl, by simp only [app_len]; omega, _, rfl, .inr ⟨_, rfl, log_small (by omega) (by omega), _, rfl, by simp only [app_len]; omega, fin _ (Same.refl _)⟩⟩⟩
    · have hy2 := hy1.same s2
      obtain ⟨dx2, l2, td2, dg2, g1, g2, g3, g4⟩ := id hy2
      have z1 : (Str.ofString (toString (n : Int))).length ≤ 2 := numS_len (i := (n : Int)) (by omega) (by omega)
      refine ⟨⟨_, rfl⟩, _, rfl, by rw [app_len]; omega, _, rfl, y, dx2, _, rfl, g1, look_no n l2 td2 dg2 (by decide +kernel) (by decide +kernel) (by decide +kernel) (by decide +kernel), y, n, ps, rfl, hy2, .inr ⟨_, rfl, log_small (by omega) (by omega), _, rfl, by simp only [app_len]; omega, ?_⟩⟩
      have lr : ((ps.map rowTie).map V.str).length = ps.length := by rw [List.length_map, List.length_map]
      refine ⟨_, rfl, D, _, rfl, .inr (SqL.of eD), ?_, fun l3 nl3 => ?_⟩
      · show (V.str _ :: ((ps.map rowTie).map V.str ++ [])).length ≤ sizeLine
        rw [List.append_nil, List.length_cons, lr]
        exact Nat.le_of_lt (small1000 (by omega))
      refine ⟨_, l3, rowYard n :: ps.map rowTie, rfl, rfl, .inl (SqL.of (by rw [upd_same, List.append_nil]; rfl)), ?_, q _ ((s1.trans s2).trans (same_new nl3))⟩
      have b : ∀ ls : List (Int × Int), (∀ p ∈ ls, p ∈ ps) → ((ls.map rowTie).map (·.length)).sum ≤ 12 * ls.length := fun ls => by
        induction ls with
        | nil => intro _; simp
        | cons p r ih =>
          intro h
          have h1 := rowTie_len n30 ti (h p (by simp))
          have h2 := ih fun q hq => h q (List.mem_cons_of_mem _ hq)
          simp only [List.map_cons, List.sum_cons, List.length_cons]
          omega
      have b := b ps fun _ h => h
      have c := rowYard_len n30
      have e9 : ("\n" : Str).length = 1 := rfl
      simp only [List.map_cons, List.sum_cons, List.length_cons, List.length_map] at b ⊢
      rw [e9]
      omega
end
end DR
namespace DR
open PySem PySem.Spec PyProof.Rows L2
theorem ok_app {a b : Str} (ha : PyData.strOk a = true) (hb : PyData.strOk b = true) : PyData.strOk (a ++ b) = true := by
  unfold PyData.strOk at ha hb ⊢
  show (a.cps ++ b.cps).all _ = true
  rw [Array.all_append, ha, hb]
  rfl
theorem numS_ok_nat : ∀ i : Nat, i < 31 → PyData.strOk (numS (i : Int)) = true := by decide +kernel
theorem numS_ok {i : Int} (h0 : 0 ≤ i) (h1 : i ≤ 30) : PyData.strOk (numS i) = true := by
  obtain ⟨j, rfl⟩ : ∃ j : Nat, i = (j : Int) := ⟨i.toNat, by omega⟩
  exact numS_ok_nat j (by omega)
theorem join_ok {sep : Str} (hs : PyData.strOk sep = true) : ∀ {ts : List Str}, (∀ t ∈ ts, PyData.strOk t = true) → PyData.strOk (Str.join sep ts) = true
  | [], _ => show PyData.strOk Str.empty = true by decide +kernel
  | [x], h => h x (by simp)
  | x :: y :: r, h => by
    show PyData.strOk (x ++ sep ++ Str.join sep (y :: r)) = true
    exact ok_app (ok_app (h x (by simp)) hs) (join_ok hs fun t ht => h t (List.mem_cons_of_mem _ ht))
theorem rowTie_ok {n : Nat} (n30 : n ≤ 30) {ps : List (Int × Int)} (ti : Ties n ps) {p : Int × Int} (hp : p ∈ ps) : PyData.strOk (rowTie p) = true := by
  have r := ti.rng p hp
  exact ok_app (ok_app (ok_app (ok_app (by decide +kernel) (by decide +kernel)) (numS_ok (by omega) (by omega))) (by decide +kernel)) (numS_ok (by omega) (by omega))
theorem rowYard_ok {n : Nat} (n30 : n ≤ 30) : PyData.strOk (rowYard n) = true := ok_app (ok_app (by decide +kernel) (by decide +kernel)) (numS_ok (by omega) (by omega))
theorem text_ok {n : Nat} (n30 : n ≤ 30) {ps : List (Int × Int)} (ti : Ties n ps) : PyData.strOk (textOf n ps) = true := by
  unfold textOf
  rw [show Txt.join "\n" (rowYard n :: ps.map rowTie) = Str.join "\n" (rowYard n :: ps.map rowTie) from StrLaws.glued_eq_join _ _]
  refine join_ok (by decide +kernel) fun t ht => ?_
  rcases List.mem_cons.mp ht with e | ht
  · rw [e]
    exact rowYard_ok n30
  · obtain ⟨p, hp, rfl⟩ := List.mem_map.mp ht
    exact rowTie_ok n30 ti hp
end DR

set_option Elab.async false
set_option linter.all false
set_option maxRecDepth 100000
set_option maxHeartbeats 4000000
namespace DR
open PySem PySem.Spec PyProof.Rows L2
section
variable {P : Program} {w : World} {K : PySem.W.Frag} {mg : Str → Option Value} {base : Heap} {C : Addr}
theorem scDeg : FnScope ["self", "place"] ["self", "place"] (defScope s_Yard_degree) := ⟨rfl, rfl, rfl, by decide +kernel, rfl, by decide +kernel, by decide +kernel⟩
theorem has_deg (D : IsMeth K C "degree" "Yard.degree" s_Yard_degree) (T : YTxt K mg C) : HasM P w K mg base C 1 "degree" ["self", "place"] (spDeg C) := by
  refine hasM_of D scDeg (fun _ _ _ _ _ _ us hl => match us, hl with | [_, _], _ => rfl) (fun vs H Q E h => ?_) (fun f cdv A outer s H vs Q E hr h => ?_)
  · obtain ⟨y, n, ps, a, rfl, _⟩ := h
    rfl
  · obtain ⟨y, n, ps, a, rfl, ⟨dx, l, td, dg, h1, h2, h3, h4⟩, a0, a1, q⟩ := h
    have hu := hu_of hr
    refine ⟨_, pss_one (ps_ret (pe_dget2 hu (pe_fld (pv 0) rfl) (pv 1) pe_int ⟨by rfl, by rfl, by rfl, by rfl⟩)), ?_⟩
    refine ⟨_, rfl, y, C, dx, _, _, rfl, h1, T.cl, T.nG, look_yG n l td dg, dg, rfl, .inl ⟨_, .inl h4⟩, _, rfl, _, DGet.k' h4 (valV_deg n _ a0 a1), q⟩
end
end DR

set_option Elab.async false
set_option linter.all false
set_option maxRecDepth 100000
set_option maxHeartbeats 4000000
namespace DR
open PySem PySem.Spec PyProof.Rows L2
/-- over two ranges, the inner one from behind the outer's number -/
theorem lc2_pairs {n : Nat} {D : Addr} {i0 i1 : Nat} {tt1 : TT} {te : TE} {wi1 : TI} {σ : L2.St} {H0 : Hp} {Qd : Hp → Prop} (f : Int × Int → Bool) (nD : H0 D = none) (hn : n ≤ 30)
    (inner : ∀ (i : Nat) H (R : It → Hp → Prop), i < n → Same H0 H → R (Itr ((i : Int) + 1) (n - (i + 1))) H → wi1 ((wipe σ [i0, i1]).set i0 (some (.int (i : Int)))) H R)
    (w0 : ∀ i : Nat, wipe ((wipe σ [i0, i1]).set i0 (some (.int (i : Int)))) [i0, i1] = wipe σ [i0, i1])
    (w1 : ∀ i j : Int, wipe ((wipe ((wipe σ [i0, i1]).set i0 (some (.int i))) [i1]).set i1 (some (.int j))) [i1] = wipe ((wipe σ [i0, i1]).set i0 (some (.int i))) [i1])
    (test : ∀ (i j : Int) H (R : Bool → Hp → Prop), 0 ≤ i → i < j → j < n → Same H0 H → (∀ H', Same H H' → R (f (i, j)) H') → tt1 ((wipe ((wipe σ [i0, i1]).set i0 (some (.int i))) [i1]).set i1 (some (.int j))) H R)
    (elt : ∀ (i j : Int) H (R : V → Hp → Prop), Same H0 H → (∀ t, H t = none → R (.ref t) (upd H t (.tup [.int i, .int j]))) → te ((wipe ((wipe σ [i0, i1]).set i0 (some (.int i))) [i1]).set i1 (some (.int j))) H R)
    (fin : ∀ H, Same H0 H → PairsAt H D ((pairsOf n).filter f) → Qd H) :
    ∃ W : Nat → Nat → Hp → Prop, (∃ m, W 0 m (upd H0 D (.lst []))) ∧ ∀ i m H, W i m H →
      ((Itr 0 n).stop i H ∧ Qd H) ∨ ((Itr 0 n).go i H ∧ ∃ Nx : Hp → Prop, (∀ H', Nx H' → ∃ m', m' < m ∧ W (i + 1) m' H') ∧ ∀ x H', (Itr 0 n).yld i H x H' → gName i0 x (wipe σ [i0, i1]) H' fun σ2 H2 => wipe σ2 [i0, i1] = wipe σ [i0, i1] ∧ tYes σ2 H2 fun b H3 =>
        if b = true then wi1 σ2 H3 fun J1 H4 => ∃ W1 : Nat → Nat → Hp → Prop, (∃ m, W1 0 m H4) ∧ ∀ j k H, W1 j k H →
          (J1.stop j H ∧ Nx H) ∨ (J1.go j H ∧ ∃ Nx1 : Hp → Prop, (∀ H', Nx1 H' → ∃ k', k' < k ∧ W1 (j + 1) k' H') ∧ ∀ x H', J1.yld j H x H' → gName i1 x (wipe σ2 [i1]) H' fun σ3 H5 => wipe σ3 [i1] = wipe σ2 [i1] ∧ tt1 σ3 H5 fun b H6 =>
            if b = true then te σ3 H6 fun y H7 => ∃ acc, H7 D = some (.lst acc) ∧ acc.length < sizeLine ∧ Nx1 (upd H7 D (.lst (acc ++ [y]))) else Nx1 H6)
        else Nx H3) := by
  have ff : ∀ i j, ((pairsTo n i).filter f ++ ((rowOf n i).take j).filter f).length ≤ 1000 := fun i j => by
    rw [← List.filter_append]
    refine Nat.le_trans (List.length_filter_le _ _) ?_
    rw [List.length_append, List.length_take, rowOf_len]
    have := pairsTo_len n (min i n)
    have h2 : (pairsTo n i).length ≤ n * n := by
      have : (pairsTo n i).length ≤ (pairsOf n).length := by
        refine nodup_le _ _ (nodup_pairsTo n i) fun ⟨a, b⟩ h => ?_
        have := mem_pairsTo.mp h
        exact mem_pairsOf.mpr ⟨this.1, this.2.2.1, this.2.2.2⟩
      exact Nat.le_trans this (pairsOf_len n)
    have h3 : n * n ≤ 30 * 30 := Nat.mul_le_mul hn hn
    omega
  refine ⟨fun i m H => i + m = n ∧ Kp D H0 H ∧ ∃ bs : List Addr, H D = some (.lst (bs.map V.ref)) ∧ TupsAt H bs ((pairsTo n i).filter f), ⟨n, by omega, Kp.put _ _ _, [], upd_same, .nil⟩, ?_⟩
  rintro i m H ⟨em, kp, bs, eD, tb⟩
  have sH : Same H0 H := fun c o e => kp c o (ne_of_none e nD) e
  by_cases hi : i < n
  · refine .inr ⟨hi, fun H' => Kp D H0 H' ∧ ∃ bs : List Addr, H' D = some (.lst (bs.map V.ref)) ∧ TupsAt H' bs ((pairsTo n (i + 1)).filter f), fun H' ⟨a, b⟩ => ⟨m - 1, by omega, by omega, a, b⟩, ?_⟩
    rintro x H' ⟨rfl, rfl⟩
    rw [Int.zero_add]
    refine ⟨w0 i, ?_⟩
    unfold tYes
    refine iteT ?_
    refine inner i H' _ hi sH ?_
    refine ⟨fun j k H2 => j + k = n - (i + 1) ∧ Kp D H0 H2 ∧ ∃ cs : List Addr, H2 D = some (.lst (cs.map V.ref)) ∧ TupsAt H2 cs ((pairsTo n i).filter f ++ ((rowOf n i).take j).filter f), ⟨n - (i + 1), by omega, kp, bs, eD, by simpa using tb⟩, ?_⟩
    rintro j k H2 ⟨ek, kp2, cs, eD2, tc⟩
    have s2 : Same H0 H2 := fun c o e => kp2 c o (ne_of_none e nD) e
    by_cases hj : j < n - (i + 1)
    · refine .inr ⟨hj, fun H' => Kp D H0 H' ∧ ∃ cs : List Addr, H' D = some (.lst (cs.map V.ref)) ∧ TupsAt H' cs ((pairsTo n i).filter f ++ ((rowOf n i).take (j + 1)).filter f), fun H' ⟨a, b⟩ => ⟨k - 1, by omega, by omega, a, b⟩, ?_⟩
      rintro x H3 ⟨rfl, rfl⟩
      refine ⟨w1 _ _, test _ _ H3 _ (by omega) (by omega) (by omega) s2 fun H4 s4 => ?_⟩
      have eD4 := s4 _ _ eD2
      have tc4 := tc.same s4
      have k4 : Kp D H0 H4 := kp2.trans (Same.kp s4 D)
      have tk := rowOf_take n i j hj
      have hl := tc.length
      have hf := ff i j
      cases hb : f ((i : Int), (i : Int) + 1 + (j : Int)) with
      | false =>
        refine iteF ⟨k4, cs, eD4, ?_⟩
        rw [tk, List.filter_append]
        simpa [hb] using tc4
      | true =>
        refine iteT (elt _ _ H4 _ (s2.trans s4) fun t nt => ?_)
        have Dt : D ≠ t := ne_of_none eD4 nt
        refine ⟨_, (upd_ne Dt).trans eD4, ?_, fun c o nc e => ?_, cs ++ [t], ?_, ?_⟩
        · rw [List.length_map]
          exact small1000 (by omega)
        · rw [upd_ne nc]
          exact same_new nt c o (k4 c o nc e)
        · rw [upd_same]
          simp
        · rw [tk, List.filter_append, ← List.append_assoc]
          refine TupsAt.lst (TupsAt.append (tc4.new nt) ?_) ((upd_ne Dt).trans eD4)
          simp only [List.filter_cons, hb, if_true, List.filter_nil]
          exact .cons upd_same .nil
    · refine .inl ⟨(by show n - (i + 1) ≤ j; omega), kp2, cs, eD2, ?_⟩
      rw [pairsTo_succ, List.filter_append]
      rwa [List.take_of_length_le (by rw [rowOf_len]; omega)] at tc
  · obtain rfl : i = n := by omega
    exact .inl ⟨Nat.le_refl _, fin H sH ⟨bs, eD, tb⟩⟩
section
variable {P : Program} {w : World} {K : PySem.W.Frag} {mg : Str → Option Value} {base : Heap} {C : Addr}
/-! ### untied: all pairs that aren't tied -/
def apart (ps : List (Int × Int)) (p : Int × Int) : Bool := !tied ps p.1 p.2
def untiedOf (n : Nat) (ps : List (Int × Int)) : List (Int × Int) := (pairsOf n).filter (apart ps)
def spUntied (C : Addr) : Sp := fun vs H Q _ => ∃ (y : Addr) (n : Nat) (ps : List (Int × Int)), vs = [.ref y] ∧ YardAt C H y n ps ∧ n ≤ 30 ∧ ∀ H' l, Same H H' → H l = none → PairsAt H' l (untiedOf n ps) → Q (.ref l) H'
abbrev nUntied : List Str := ["yard", "many", "one", "other"]
theorem scUntied : FnScope nUntied ["yard"] (defScope s_untied) := ⟨rfl, rfl, rfl, by decide +kernel, rfl, by decide +kernel, by decide +kernel⟩
theorem has_untied (D : IsDef K mg "untied" s_untied) (B : Blt mg) (T : YTxt K mg C) (M : HasM P w K mg base C 1 "many" ["self"] (spMany C)) (TD : HasM P w K mg base C 1 "is_tied" ["self", "one", "other"] (spTied C)) :
    Has P w K mg base 2 "untied" ["yard"] (spUntied C) := by
  refine has_of D scUntied (fun _ _ _ _ _ _ us hl => match us, hl with | [_], _ => rfl) (fun vs H Q E h => ?_) (fun f cdv A outer s H vs Q E hr h => ?_)
  · obtain ⟨y, n, ps, rfl, _⟩ := h
    rfl
  · obtain ⟨y, n, ps, rfl, hy, hn, q⟩ := h
    refine ⟨_, pss_cons (ps_set (i := 1) scUntied.nd rfl (.inr rfl) (pe_hasM0 (pv 0) T.cl M hr (by decide)))
      (pss_one (ps_ret (pe_lc2 (own := [("one", 2), ("other", 3)]) (vs1 := [3]) (g := gName 2) (g1 := gName 3) (tt := tYes) rfl scUntied.nd (pi_range1 (by rfl) B.range (pa_cons (pv 1) pa_nil)) (blkOk_by (N := nUntied) (sc := defScope s_untied) (by decide +kernel)) (by decide)
        (fun _ _ _ _ _ => pg_name (i := 2) scUntied.nd rfl (.inl rfl)) (fun _ _ _ _ _ => pts_nil) (fun _ _ _ _ _ => pi_range2 (by rfl) B.range (pa_cons (pe_op op_add (pv 2) pe_int) (pa_cons (pv 1) pa_nil))) (fun _ _ _ _ _ => pg_name (i := 3) scUntied.nd rfl (.inl rfl))
        (fun _ _ _ _ _ => pts_one (pt_not (pt_val (pe_hasM (pv 0) T.cl TD hr (by decide) (pa_cons (pv 2) (pa_cons (pv 3) pa_nil))))))
        (fun _ _ _ _ _ => pe_tup (pa_cons (pv 2) (pa_cons (pv 3) pa_nil)))))), ?_⟩
    obtain ⟨dx, l, td, dg, h1, h2, h3, h4⟩ := id hy
    refine ⟨_, rfl, y, dx, _, rfl, h1, look_no n l td dg (by decide +kernel) (by decide +kernel) (by decide +kernel) (by decide +kernel), y, n, ps, rfl, hy, ?_⟩
    refine ⟨_, rfl, (n : Int), rfl, by omega, by omega, fun D nD => ?_⟩
    rw [Int.toNat_natCast]
    refine lc2_pairs (apart ps) nD hn ?_ ?_ ?_ ?_ ?_ ?_
    · intro i H2 R hi s2 hR
      refine ⟨_, rfl, _, _, rfl, rfl, _, rfl, _, _, rfl, ⟨by omega, by omega, by omega, by omega⟩, ?_⟩
      have e : ((n : Int) - ((i : Int) + 1)).toNat = n - (i + 1) := by omega
      rw [e]
      exact hR
    · intro i
      rfl
    · intro i j
      rfl
    · intro i j H2 R i0 ij jn s2 hR
      have hy2 := hy.same s2
      obtain ⟨dx, l, td, dg, h1, h2, h3, h4⟩ := id hy2
      refine ⟨_, rfl, y, dx, _, rfl, h1, look_no n l td dg (by decide +kernel) (by decide +kernel) (by decide +kernel) (by decide +kernel), _, rfl, _, rfl, y, n, ps, i, j, rfl, hy2, fun H3 s3 => ⟨_, rfl, ?_⟩⟩
      exact hR _ s3
    · intro i j H2 R s2 hR
      exact ⟨_, rfl, _, rfl, by show 2 ≤ sizeLine; decide, fun t nt => hR t nt⟩
    · intro H2 s2 hp
      exact q H2 D s2 nD hp
end
end DR

set_option Elab.async false
set_option linter.all false
set_option maxRecDepth 100000
set_option maxHeartbeats 4000000
namespace DR
open PySem PySem.Spec PyProof.Rows L2
/-- those of a list of pairs that a test takes, unpacked and made anew -/
theorem lc_filtT {K : PySem.W.Frag} {l D : Addr} {ps : List (Int × Int)} {H0 : Hp} {σ : L2.St} {i j : Nat} {tt : TT} {te : TE} {Qd : Hp → Prop} (f : Int × Int → Bool) (hl : PairsAt H0 l ps) (nD : H0 D = none) (len : ps.length ≤ 1000)
    (hw : ∀ a b : V, wipe (((wipe σ [i, j]).set i (some a)).set j (some b)) [i, j] = wipe σ [i, j])
    (test : ∀ p H (R : Bool → Hp → Prop), p ∈ ps → Same H0 H → (∀ H', Same H H' → R (f p) H') → tt (((wipe σ [i, j]).set i (some (.int p.1))).set j (some (.int p.2))) H R)
    (elt : ∀ p H (R : V → Hp → Prop), p ∈ ps → Same H0 H → (∀ t, H t = none → R (.ref t) (upd H t (.tup [.int p.1, .int p.2]))) → te (((wipe σ [i, j]).set i (some (.int p.1))).set j (some (.int p.2))) H R)
    (fin : ∀ H, Same H0 H → PairsAt H D (ps.filter f) → Qd H) :
    ∃ W : Nat → Nat → Hp → Prop, (∃ m, W 0 m (upd H0 D (.lst []))) ∧ ∀ k m H, W k m H →
      ((Itl K l).stop k H ∧ Qd H) ∨ ((Itl K l).go k H ∧ ∃ Nx : Hp → Prop, (∀ H', Nx H' → ∃ m', m' < m ∧ W (k + 1) m' H') ∧ ∀ x H', (Itl K l).yld k H x H' → gTup K 2 (gCons (gName i) (gCons (gName j) gNil)) x (wipe σ [i, j]) H' fun σ2 H2 => wipe σ2 [i, j] = wipe σ [i, j] ∧ tt σ2 H2 fun b H3 =>
        if b = true then te σ2 H3 fun y H4 => ∃ acc, H4 D = some (.lst acc) ∧ acc.length < sizeLine ∧ Nx (upd H4 D (.lst (acc ++ [y]))) else Nx H3) := by
  obtain ⟨as, el, ta⟩ := hl
  have lD : l ≠ D := ne_of_none el nD
  refine lc_list (K := K) (a := l) (xs := as.map V.ref) (g := gTup K 2 (gCons (gName i) (gCons (gName j) gNil))) (tt := tt) (te := te) (vs := [i, j]) (σ := σ) (Pv := fun k H => Kp D H0 H ∧ ∃ bs, H D = some (.lst (bs.map V.ref)) ∧ TupsAt H bs ((ps.take k).filter f))
    ⟨Kp.put _ _ _, [], upd_same, .nil⟩ (fun k H _ ⟨kp, _⟩ => SqL.of (kp l _ lD el)) (fun k x H hx ⟨kp, bs, eD, tb⟩ => ?_) (fun H ⟨kp, bs, eD, tb⟩ => ?_)
  · obtain ⟨a, rfl, ha⟩ := refs_at' hx
    obtain ⟨p, hp, ea⟩ := ta.at_ ha
    have hpm := List.mem_of_getElem? hp
    have s2 : Same H0 H := fun c o e => kp c o (ne_of_none e nD) e
    have tk : ps.take (k + 1) = ps.take k ++ [p] := by
      rw [List.take_succ, hp]
      rfl
    have hj : k < ps.length := (List.getElem?_eq_some_iff.mp hp).1
    have hb : bs.length ≤ k := by
      rw [tb.length]
      refine Nat.le_trans (List.length_filter_le _ _) ?_
      rw [List.length_take]
      omega
    refine ⟨a, _, rfl, SqT.of (s2 _ _ ea), rfl, _, _, rfl, _, _, rfl, rfl, hw _ _, test p H _ hpm s2 fun H' s3 => ?_⟩
    have eD' := s3 _ _ eD
    have tb' := tb.same s3
    have k' : Kp D H0 H' := kp.trans (Same.kp s3 D)
    cases hf : f p with
    | false =>
      refine iteF ⟨k', bs, eD', ?_⟩
      rw [tk, List.filter_append]
      simpa [hf] using tb'
    | true =>
      refine iteT (elt p H' _ hpm (s2.trans s3) fun t nt => ?_)
      have Dt : D ≠ t := ne_of_none eD' nt
      refine ⟨_, (upd_ne Dt).trans eD', ?_, fun c o nc e => ?_, bs ++ [t], ?_, ?_⟩
      · rw [List.length_map]
        exact small1000 (by omega)
      · rw [upd_ne nc]
        exact same_new nt c o (k' c o nc e)
      · rw [upd_same]
        simp
      · rw [tk, List.filter_append]
        refine TupsAt.lst (TupsAt.append (tb'.new nt) ?_) ((upd_ne Dt).trans eD')
        simp only [List.filter_cons, hf, if_true, List.filter_nil]
        exact .cons upd_same .nil
  · refine fin H (fun c o e => kp c o (ne_of_none e nD) e) ⟨bs, eD, ?_⟩
    rw [List.length_map, ta.length, List.take_length] at tb
    exact tb
end DR

set_option Elab.async false
set_option linter.all false
set_option maxRecDepth 100000
set_option maxHeartbeats 4000000
namespace DR
open PySem PySem.Spec PyProof.Rows L2
def isThin (n : Nat) (ps : List (Int × Int)) (p : Int × Int) : Bool := !tied ps p.1 p.2 && decide (cnt ps p.1 + cnt ps p.2 < n)
def thinOf (n : Nat) (ps : List (Int × Int)) : List (Int × Int) := (pairsOf n).filter (isThin n ps)
def spThin (C : Addr) : Sp := fun vs H Q _ => ∃ (y : Addr) (n : Nat) (ps : List (Int × Int)), vs = [.ref y] ∧ YardAt C H y n ps ∧ n ≤ 30 ∧ ∀ H' l, Same H H' → H l = none → PairsAt H' l (thinOf n ps) → Q (.ref l) H'
section
variable {P : Program} {w : World} {K : PySem.W.Frag} {mg : Str → Option Value} {base : Heap} {C : Addr}
/-! ### thin -/
abbrev nThin : List Str := ["yard", "one", "other"]
theorem scThin : FnScope nThin ["yard"] (defScope s_thin) := ⟨rfl, rfl, rfl, by decide +kernel, rfl, by decide +kernel, by decide +kernel⟩
theorem thin_two (n : Nat) (ps : List (Int × Int)) : thinOf n ps = (untiedOf n ps).filter fun p => decide (cnt ps p.1 + cnt ps p.2 < n) := by
  unfold thinOf untiedOf
  rw [List.filter_filter]
  refine List.filter_congr fun p _ => ?_
  unfold isThin apart
  rw [Bool.and_comm]
theorem has_thin (D : IsDef K mg "thin" s_thin) (B : Blt mg) (T : YTxt K mg C) (M : HasM P w K mg base C 1 "many" ["self"] (spMany C)) (UT : Has P w K mg base 2 "untied" ["yard"] (spUntied C)) (DG : HasM P w K mg base C 1 "degree" ["self", "place"] (spDeg C)) :
    Has P w K mg base 3 "thin" ["yard"] (spThin C) := by
  refine has_of D scThin (fun _ _ _ _ _ _ us hl => match us, hl with | [_], _ => rfl) (fun vs H Q E h => ?_) (fun f cdv A outer s H vs Q E hr h => ?_)
  · obtain ⟨y, n, ps, rfl, _⟩ := h
    rfl
  · obtain ⟨y, n, ps, rfl, hy, hn, q⟩ := h
    refine ⟨_, pss_one (ps_ret (pe_lc (own := [("one", 1), ("other", 2)]) (g := gTup K 2 (gCons (gName 1) (gCons (gName 2) gNil))) (by rfl) scThin.nd (pi_list (pe_has UT hr (by decide) (by rfl) (pa_cons (pv 0) pa_nil))) (blkOk_by (N := nThin) (sc := defScope s_thin) (by decide +kernel))
        (fun _ _ _ _ _ => by exact (pg_tup rfl (pgs_cons (by exact (pg_name (i := 1) scThin.nd rfl (.inl rfl))) (pgs_cons (by exact (pg_name (i := 2) scThin.nd rfl (.inl rfl))) pgs_nil))))
        (fun _ _ _ _ _ => pts_one (pt_cmpR op_lt (pe_op op_add (pe_hasM (pv 0) T.cl DG hr (by decide) (pa_cons (pv 1) pa_nil)) (pe_hasM (pv 0) T.cl DG hr (by decide) (pa_cons (pv 2) pa_nil))) (pe_hasM0 (pv 0) T.cl M hr (by decide)) (nomark _)))
        (fun _ _ _ _ _ => pe_tup (pa_cons (pv 1) (pa_cons (pv 2) pa_nil))))), ?_⟩
    refine ⟨_, rfl, y, n, ps, rfl, hy, hn, fun H1 l s1 nl pl => ?_⟩
    have hy1 := hy.same s1
    obtain ⟨as, el, ta⟩ := id pl
    refine ⟨l, rfl, ⟨_, SqL.of el⟩, fun D nD => lc_filtT (fun p => decide (cnt ps p.1 + cnt ps p.2 < n)) pl nD ?_ (fun _ _ => rfl) (fun p H2 R hp s2 fin => ?_) (fun p H2 R hp s2 fin => ?_) (fun H2 s2 hp => ?_)⟩
    · have := (Ties.all n).len900 hn
      have := List.length_filter_le (apart ps) (pairsOf n)
      unfold untiedOf
      omega
    · have bd := (Ties.all n).bound (List.mem_filter.mp hp).1
      have hy2 := hy1.same s2
      obtain ⟨dx, l, td, dg, h1, h2, h3, h4⟩ := id hy2
      refine ⟨_, rfl, y, dx, _, rfl, h1, look_no n l td dg (by decide +kernel) (by decide +kernel) (by decide +kernel) (by decide +kernel), _, rfl, y, n, ps, _, rfl, hy2, bd.1, bd.2.1, ?_⟩
      refine ⟨_, rfl, y, dx, _, rfl, h1, look_no n l td dg (by decide +kernel) (by decide +kernel) (by decide +kernel) (by decide +kernel), _, rfl, y, n, ps, _, rfl, hy2, bd.2.2.1, bd.2.2.2, ?_⟩
      refine ⟨_, _, rfl, rfl, _, rfl, y, dx, _, rfl, h1, look_no n l td dg (by decide +kernel) (by decide +kernel) (by decide +kernel) (by decide +kernel), y, n, ps, rfl, hy2, ?_⟩
      refine ⟨_, _, rfl, rfl, _, rfl, ?_⟩
      exact fin _ (Same.refl _)
    · exact ⟨_, rfl, _, rfl, by show 2 ≤ sizeLine; decide, fun t nt => fin t nt⟩
    · refine q H2 D (s1.trans s2) (s1.free nD) ?_
      rw [thin_two]
      exact hp
end
end DR

set_option Elab.async false
set_option linter.all false
set_option maxRecDepth 100000
set_option maxHeartbeats 4000000
/-! ### orders, gaps, turnings: what is so whatever the program -/
namespace DR
open PySem PySem.Spec PyProof.Rows L2
theorem tied_comm (ps : List (Int × Int)) (a b : Int) : tied ps a b = tied ps b a := by
  unfold tied
  rw [Bool.or_comm]
def rowAt (os : List Int) (a : Nat) : List Int := os.drop (a + 1) ++ os.take (a + 1)
def turnedOf (os : List Int) (a b : Nat) : List Int := ((rowAt os a).take (b + 1)).reverse ++ (rowAt os a).drop (b + 1)
def gapAt (ps : List (Int × Int)) (os : List Int) (i : Nat) : Bool := !tied ps (os.getD i 0) ((os ++ os).getD (i + 1) 0)
def gapsOf (ps : List (Int × Int)) (os : List Int) : List Nat := (List.range os.length).filter (gapAt ps os)
def gp1 (ps : List (Int × Int)) (x y : Int) : Nat := if tied ps x y = true then 0 else 1
def pg (ps : List (Int × Int)) : List Int → Nat
  | [] => 0
  | [_] => 0
  | x :: y :: r => gp1 ps x y + pg ps (y :: r)
theorem gp1_comm (ps : List (Int × Int)) (x y : Int) : gp1 ps x y = gp1 ps y x := by
  unfold gp1
  rw [tied_comm]
theorem pg_mid (ps : List (Int × Int)) (x : Int) (B : List Int) : ∀ A : List Int, pg ps (A ++ x :: B) = pg ps (A ++ [x]) + pg ps (x :: B)
  | [] => by simp [pg]
  | [a] => by
    show pg ps (a :: x :: B) = pg ps [a, x] + pg ps (x :: B)
    simp [pg]
  | a :: b :: A => by
    have ih := pg_mid ps x B (b :: A)
    show gp1 ps a b + pg ps (b :: A ++ x :: B) = gp1 ps a b + pg ps (b :: A ++ [x]) + pg ps (x :: B)
    omega
theorem pg_snoc (ps : List (Int × Int)) (A : List Int) (x y : Int) : pg ps (A ++ [x, y]) = pg ps (A ++ [x]) + gp1 ps x y := by
  rw [show A ++ [x, y] = A ++ x :: [y] from rfl, pg_mid]
  rfl
theorem pg_rev (ps : List (Int × Int)) : ∀ l : List Int, pg ps l.reverse = pg ps l
  | [] => rfl
  | [_] => rfl
  | x :: y :: r => by
    have ih := pg_rev ps (y :: r)
    rw [List.reverse_cons, List.reverse_cons, List.append_assoc]
    show pg ps (r.reverse ++ [y, x]) = gp1 ps x y + pg ps (y :: r)
    rw [pg_snoc, gp1_comm, ← ih, List.reverse_cons]
    omega
def cyc (ps : List (Int × Int)) (l : List Int) : Nat := pg ps (l ++ l.take 1)
theorem cyc_rot (ps : List (Int × Int)) (A B : List Int) : cyc ps (A ++ B) = cyc ps (B ++ A) := by
  cases A with
  | nil => simp
  | cons x A =>
    cases B with
    | nil => simp
    | cons y B =>
      unfold cyc
      show pg ps (x :: A ++ y :: B ++ [x]) = pg ps (y :: B ++ x :: A ++ [y])
      rw [show x :: A ++ y :: B ++ [x] = (x :: A) ++ y :: (B ++ [x]) from by simp, show y :: B ++ x :: A ++ [y] = (y :: B) ++ x :: (A ++ [y]) from by simp, pg_mid ps y (B ++ [x]) (x :: A), pg_mid ps x (A ++ [y]) (y :: B)]
      rw [show y :: (B ++ [x]) = y :: B ++ [x] from rfl, show x :: (A ++ [y]) = x :: A ++ [y] from rfl]
      omega
theorem pg_ix (ps : List (Int × Int)) : ∀ l : List Int, pg ps l = ((List.range (l.length - 1)).filter fun i => !tied ps (l.getD i 0) (l.getD (i + 1) 0)).length
  | [] => rfl
  | [_] => rfl
  | x :: y :: r => by
    have ih := pg_ix ps (y :: r)
    show gp1 ps x y + pg ps (y :: r) = _
    rw [ih, show (x :: y :: r).length - 1 = ((y :: r).length - 1) + 1 from by simp, List.range_succ_eq_map, List.filter_cons, List.filter_map, ]
    unfold gp1
    have e : ((fun i => !tied ps ((x :: y :: r).getD i 0) ((x :: y :: r).getD (i + 1) 0)) ∘ Nat.succ) = fun i => !tied ps ((y :: r).getD i 0) ((y :: r).getD (i + 1) 0) := rfl
    rw [e]
    show _ = (if (!tied ps x y) = true then _ else _ : List Nat).length
    cases tied ps x y <;> simp
    omega
theorem gaps_cyc (ps : List (Int × Int)) (os : List Int) : (gapsOf ps os).length = cyc ps os := by
  unfold cyc
  rw [pg_ix]
  cases os with
  | nil => rfl
  | cons x r =>
    have e : ((x :: r) ++ (x :: r).take 1).length - 1 = (x :: r).length := by simp
    rw [e]
    unfold gapsOf
    congr 1
    refine List.filter_congr fun i hi => ?_
    have hi : i < (x :: r).length := List.mem_range.mp hi
    unfold gapAt
    have e1 : ((x :: r) ++ (x :: r).take 1).getD i 0 = (x :: r).getD i 0 := by
      simp only [List.getD_eq_getElem?_getD]
      rw [List.getElem?_append_left hi]
    have e2 : ((x :: r) ++ (x :: r).take 1).getD (i + 1) 0 = ((x :: r) ++ (x :: r)).getD (i + 1) 0 := by
      simp only [List.getD_eq_getElem?_getD]
      by_cases h : i + 1 < (x :: r).length
      · rw [List.getElem?_append_left h, List.getElem?_append_left h]
      · have h2 : i + 1 = (x :: r).length := by omega
        rw [List.getElem?_append_right (by omega), List.getElem?_append_right (by omega), h2]
        simp
    rw [e1, e2]
theorem rowAt_len (os : List Int) {a : Nat} (h : a < os.length) : (rowAt os a).length = os.length := by
  unfold rowAt
  rw [List.length_append, List.length_drop, List.length_take]
  omega
theorem rowAt_perm (os : List Int) (a : Nat) : (rowAt os a).Perm os := by
  unfold rowAt
  refine List.perm_append_comm.trans ?_
  rw [List.take_append_drop]
theorem turned_perm (os : List Int) (a b : Nat) : (turnedOf os a b).Perm os := by
  unfold turnedOf
  refine (List.Perm.append_right _ (List.reverse_perm _)).trans ?_
  rw [List.take_append_drop]
  exact rowAt_perm os a
theorem rowAt_first (os : List Int) {a : Nat} (h : a < os.length) : (rowAt os a).getD 0 0 = (os ++ os).getD (a + 1) 0 := by
  unfold rowAt
  simp only [List.getD_eq_getElem?_getD]
  by_cases h1 : a + 1 < os.length
  · rw [List.getElem?_append_left (by rw [List.length_drop]; omega), List.getElem?_append_left h1, List.getElem?_drop]
  · have e : a + 1 = os.length := by omega
    rw [List.getElem?_append_right (by rw [List.length_drop]; omega), List.getElem?_append_right (by omega), List.length_drop, e]
    simp
theorem rowAt_last (os : List Int) {a : Nat} (h : a < os.length) : (rowAt os a).getD (os.length - 1) 0 = os.getD a 0 := by
  unfold rowAt
  simp only [List.getD_eq_getElem?_getD]
  rw [List.getElem?_append_right (by rw [List.length_drop]; omega), List.length_drop, show os.length - 1 - (os.length - (a + 1)) = a from by omega, List.getElem?_take_of_lt (by omega)]
/-- a turning closes its gap, and opens none -/
theorem turned_less (ps : List (Int × Int)) (os : List Int) {a b : Nat} (ha : a < os.length) (hb : b + 1 < os.length) (g : gapAt ps os a = true)
    (t1 : tied ps ((rowAt os a).getD 0 0) ((rowAt os a).getD (b + 1) 0) = true) (t2 : tied ps ((rowAt os a).getD (os.length - 1) 0) ((rowAt os a).getD b 0) = true) :
    (gapsOf ps (turnedOf os a b)).length < (gapsOf ps os).length := by
  rw [gaps_cyc, gaps_cyc]
  have e1 : cyc ps os = cyc ps (rowAt os a) := by
    unfold rowAt
    rw [cyc_rot, List.take_append_drop]
  rw [e1]
  have g1 : gp1 ps ((rowAt os a).getD (os.length - 1) 0) ((rowAt os a).getD 0 0) = 1 := by
    unfold gapAt at g
    rw [rowAt_first os ha, rowAt_last os ha]
    unfold gp1
    rw [if_neg]
    intro z
    rw [z] at g
    cases g
  have g2 : gp1 ps ((rowAt os a).getD 0 0) ((rowAt os a).getD (b + 1) 0) = 0 := by
    unfold gp1
    rw [if_pos t1]
  have g3 : gp1 ps ((rowAt os a).getD (os.length - 1) 0) ((rowAt os a).getD b 0) = 0 := by
    unfold gp1
    rw [if_pos t2]
  unfold turnedOf
  have hl := rowAt_len os ha
  generalize rowAt os a = row at *
  rw [← hl] at hb g1 g3
  clear t1 t2 e1 g ha
  have er : row = row.take b ++ row[b] :: row[b + 1] :: row.drop (b + 2) := by
    conv => lhs; rw [← List.take_append_drop b row]
    rw [List.drop_eq_getElem_cons (by omega), List.drop_eq_getElem_cons hb]
  have hu : row.getD b 0 = row[b] := by rw [List.getD_eq_getElem?_getD, List.getElem?_eq_getElem (by omega)]; rfl
  have hv : row.getD (b + 1) 0 = row[b + 1] := by rw [List.getD_eq_getElem?_getD, List.getElem?_eq_getElem hb]; rfl
  rw [hu] at g3
  rw [hv] at g2
  have et : row.take (b + 1) = row.take b ++ [row[b]] := by
    rw [List.take_succ, List.getElem?_eq_getElem (by omega)]
    rfl
  have ed : row.drop (b + 1) = row[b + 1] :: row.drop (b + 2) := List.drop_eq_getElem_cons hb
  generalize row[b] = u at *
  generalize row[b + 1] = v at *
  -- the first
  obtain ⟨x, X, ex⟩ : ∃ x X, row.take (b + 1) = x :: X := by
    cases h : row.take (b + 1) with
    | nil =>
      rw [et] at h
      simp at h
    | cons x X => exact ⟨x, X, rfl⟩
  have hx : row.getD 0 0 = x := by
    have : (row.take (b + 1)).getD 0 0 = row.getD 0 0 := by
      simp only [List.getD_eq_getElem?_getD]
      rw [List.getElem?_take_of_lt (by omega)]
    rw [← this, ex]
    rfl
  -- the last
  obtain ⟨S, w, ew⟩ : ∃ S w, row.drop (b + 1) = S ++ [w] := by
    rw [ed]
    exact ⟨_, _, (List.dropLast_concat_getLast (List.cons_ne_nil _ _)).symm⟩
  have hw : row.getD (row.length - 1) 0 = w := by
    have h2 : row = (row.take (b + 1) ++ S) ++ [w] := by rw [List.append_assoc, ← ew, List.take_append_drop]
    have h3 : ∀ (l : List Int) (w : Int), (l ++ [w]).getD ((l ++ [w]).length - 1) 0 = w := fun l w => by simp
    calc row.getD (row.length - 1) 0 = ((row.take (b + 1) ++ S) ++ [w]).getD (((row.take (b + 1) ++ S) ++ [w]).length - 1) 0 := by rw [← h2]
      _ = w := h3 _ _
  rw [hx, hw] at g1
  rw [hx] at g2
  rw [hw] at g3
  have old : cyc ps row = pg ps (row.take (b + 1)) + gp1 ps u v + (pg ps (row.drop (b + 1)) + gp1 ps w x) := by
    unfold cyc
    have h1 : row ++ row.take 1 = row.take b ++ [u] ++ v :: (row.drop (b + 2) ++ [x]) := by
      have h0 : row.take 1 = [x] := by
        have : row.take 1 = (row.take (b + 1)).take 1 := by rw [List.take_take, Nat.min_eq_left (by omega)]
        rw [this, ex]
        rfl
      rw [h0]
      conv => lhs; rw [er]
      simp
    rw [h1, pg_mid, show v :: (row.drop (b + 2) ++ [x]) = row.drop (b + 1) ++ [x] from by rw [ed]; rfl, ew, List.append_assoc S [w] [x], show [w] ++ [x] = [w, x] from rfl, pg_snoc ps S w x, List.append_assoc (row.take b), show [u] ++ [v] = [u, v] from rfl, pg_snoc ps _ u v, ← et]
  have new : cyc ps ((row.take (b + 1)).reverse ++ row.drop (b + 1)) = pg ps (row.take (b + 1)) + gp1 ps x v + (pg ps (row.drop (b + 1)) + gp1 ps w u) := by
    unfold cyc
    have h1 : (row.take (b + 1)).reverse ++ row.drop (b + 1) ++ ((row.take (b + 1)).reverse ++ row.drop (b + 1)).take 1 = X.reverse ++ [x] ++ v :: (row.drop (b + 2) ++ [u]) := by
      have h0 : ((row.take (b + 1)).reverse ++ row.drop (b + 1)).take 1 = [u] := by
        rw [et]
        simp
      rw [h0, ex, ed]
      simp
    rw [h1, pg_mid, show v :: (row.drop (b + 2) ++ [u]) = row.drop (b + 1) ++ [u] from by rw [ed]; rfl, ew, List.append_assoc S [w] [u], show [w] ++ [u] = [w, u] from rfl, pg_snoc ps S w u, List.append_assoc X.reverse, show [x] ++ [v] = [x, v] from rfl, pg_snoc ps _ x v, ← pg_rev ps (row.take (b + 1)), ex, List.reverse_cons]
  rw [old, new, g1, g2, g3]
  omega
end DR

set_option Elab.async false
set_option linter.all false
set_option maxRecDepth 100000
set_option maxHeartbeats 4000000
namespace DR
open PySem PySem.Spec PyProof.Rows L2
def closes (ps : List (Int × Int)) (os : List Int) (a b : Nat) : Bool := tied ps ((rowAt os a).getD 0 0) ((rowAt os a).getD (b + 1) 0) && tied ps ((rowAt os a).getD (os.length - 1) 0) ((rowAt os a).getD b 0)
def leastBack (ps : List (Int × Int)) (os : List Int) (a : Nat) : Option Nat := ((List.range (os.length - 2)).map (· + 1)).find? (closes ps os a)
def firstTurning (ps : List (Int × Int)) (os : List Int) : Option (Nat × Nat) := (gapsOf ps os).findSome? fun a => (leastBack ps os a).map fun b => (a, b)
theorem lb_pre {f : Nat → Bool} {m : Nat} : ∀ {j : Nat}, (∀ i < j, f (i + 1) = false) → ((List.range j).map (· + 1)).find? f = none := by
  intro j h
  rw [List.find?_eq_none]
  intro x hx
  obtain ⟨i, hi, rfl⟩ := List.mem_map.mp hx
  rw [h i (List.mem_range.mp hi)]
  exact Bool.false_ne_true
theorem lb_none {ps : List (Int × Int)} {os : List Int} {a : Nat} (h : ∀ i < os.length - 2, closes ps os a (i + 1) = false) : leastBack ps os a = none := lb_pre (m := 0) h
theorem lb_some {ps : List (Int × Int)} {os : List Int} {a j : Nat} (hj : j < os.length - 2) (h : ∀ i < j, closes ps os a (i + 1) = false) (t : closes ps os a (j + 1) = true) : leastBack ps os a = some (j + 1) := by
  unfold leastBack
  have e : List.range (os.length - 2) = List.range j ++ (List.range (os.length - 2 - j)).map (j + ·) := by
    rw [← List.range_add]
    congr 1
    omega
  rw [e, List.map_append, List.find?_append, lb_pre (m := 0) h, Option.none_or]
  obtain ⟨k, hk⟩ : ∃ k, os.length - 2 - j = k + 1 := ⟨os.length - 2 - j - 1, by omega⟩
  rw [hk, List.range_succ_eq_map, List.map_cons, List.map_cons, List.find?_cons]
  have t' : closes ps os a (j + 0 + 1) = true := t
  rw [t']
theorem lb_ok {ps : List (Int × Int)} {os : List Int} {a b : Nat} (h : leastBack ps os a = some b) : 1 ≤ b ∧ b + 1 < os.length ∧ closes ps os a b = true := by
  have h1 := List.find?_some h
  have h2 := List.mem_of_find?_eq_some h
  obtain ⟨i, hi, rfl⟩ := List.mem_map.mp h2
  have := List.mem_range.mp hi
  exact ⟨by omega, by omega, h1⟩
theorem fs_at {α β : Type} {f : α → Option β} : ∀ {l : List α} {k : Nat} {x : α} {b : β}, l[k]? = some x → (∀ y ∈ l.take k, f y = none) → f x = some b → l.findSome? f = some b
  | [], _, _, _, h, _, _ => by simp at h
  | y :: l, 0, x, b, h, _, e => by
    injection h with h
    subst h
    rw [List.findSome?_cons, e]
  | y :: l, k + 1, x, b, h, p, e => by
    have h1 : f y = none := p y (by simp)
    rw [List.findSome?_cons, h1]
    exact fs_at (k := k) (by simpa using h) (fun z hz => p z (by simp [hz])) e
theorem ft_ok {ps : List (Int × Int)} {os : List Int} {a b : Nat} (h : firstTurning ps os = some (a, b)) : a < os.length ∧ 1 ≤ b ∧ b + 1 < os.length ∧ gapAt ps os a = true ∧ closes ps os a b = true := by
  obtain ⟨x, hx, e⟩ := List.exists_of_findSome?_eq_some h
  obtain ⟨hx1, hx2⟩ := List.mem_filter.mp hx
  cases q : leastBack ps os x with
  | none =>
    rw [q] at e
    cases e
  | some c =>
    rw [q] at e
    injection e with e
    injection e with e1 e2
    subst e1
    subst e2
    obtain ⟨h1, h2, h3⟩ := lb_ok q
    exact ⟨List.mem_range.mp hx1, h1, h2, hx2, h3⟩
theorem ft_less {ps : List (Int × Int)} {os : List Int} {a b : Nat} (h : firstTurning ps os = some (a, b)) : (gapsOf ps (turnedOf os a b)).length < (gapsOf ps os).length := by
  obtain ⟨h1, h2, h3, h4, h5⟩ := ft_ok h
  obtain ⟨t1, t2⟩ := Bool.and_eq_true_iff.mp h5
  exact turned_less ps os h1 h3 h4 t1 t2
def goes (ps : List (Int × Int)) : Nat → List Int → List (Int × Int) × List Int
  | 0, os => ([], os)
  | k + 1, os => match firstTurning ps os with
    | none => ([], os)
    | some (a, b) => (((a : Int), (b : Int)) :: (goes ps k (turnedOf os a b)).1, (goes ps k (turnedOf os a b)).2)
theorem goes_none {ps : List (Int × Int)} {os : List Int} (h : firstTurning ps os = none) : ∀ k, goes ps k os = ([], os)
  | 0 => rfl
  | k + 1 => by
    unfold goes
    rw [h]
theorem goes_some {ps : List (Int × Int)} {os : List Int} {a b : Nat} (h : firstTurning ps os = some (a, b)) (k : Nat) : goes ps (k + 1) os = (((a : Int), (b : Int)) :: (goes ps k (turnedOf os a b)).1, (goes ps k (turnedOf os a b)).2) := by
  conv => lhs; unfold goes
  rw [h]
theorem gaps_le (ps : List (Int × Int)) (os : List Int) : (gapsOf ps os).length ≤ os.length := by
  have := List.length_filter_le (gapAt ps os) (List.range os.length)
  rw [List.length_range] at this
  exact this
theorem goes_len (ps : List (Int × Int)) : ∀ (k : Nat) (os : List Int), (goes ps k os).1.length ≤ k ∧ (goes ps k os).2.Perm os
  | 0, os => ⟨Nat.le_refl _, List.Perm.refl _⟩
  | k + 1, os => by
    cases h : firstTurning ps os with
    | none =>
      rw [goes_none h]
      exact ⟨Nat.zero_le _, List.Perm.refl _⟩
    | some p =>
      obtain ⟨a, b⟩ := p
      rw [goes_some h]
      obtain ⟨h1, h2⟩ := goes_len ps k (turnedOf os a b)
      exact ⟨by simpa using h1, h2.trans (turned_perm os a b)⟩
/-- whether it is a round -/
def isRound (n : Nat) (ps : List (Int × Int)) (os : List Int) : Bool := decide (3 ≤ n) && (gapsOf ps os).isEmpty
def roundedOf (ps : List (Int × Int)) (os : List Int) : List (Int × Int) × List Int := goes ps (os.length + 1) os
end DR

set_option Elab.async false
set_option linter.all false
set_option maxRecDepth 100000
set_option maxHeartbeats 4000000
namespace DR
open PySem PySem.Spec PyProof.Rows L2
section
variable {P : Program} {w : World} {K : PySem.W.Frag} {mg : Str → Option Value} {base : Heap} {C : Addr}
/-! ### check_order, gaps, is_round -/
def spCheckOrd (C : Addr) : Sp := fun vs H Q _ => ∃ (y l : Addr) (n : Nat) (ps : List (Int × Int)) (os : List Int), vs = [.ref y, .ref l] ∧ YardAt C H y n ps ∧ OrdAt H l os ∧ IsOrd n os ∧ n ≤ 30 ∧ ∀ H', Same H H' → Q .non H'
theorem scCheckOrd : FnScope ["yard", "order"] ["yard", "order"] (defScope s_check_order) := ⟨rfl, rfl, rfl, by decide +kernel, rfl, by decide +kernel, by decide +kernel⟩
theorem has_checkord (D : IsDef K mg "check_order" s_check_order) (B : Blt mg) (T : YTxt K mg C) (M : HasM P w K mg base C 1 "many" ["self"] (spMany C)) : Has P w K mg base 2 "check_order" ["yard", "order"] (spCheckOrd C) := by
  refine has_of D scCheckOrd (fun _ _ _ _ _ _ us hl => match us, hl with | [_, _], _ => rfl) (fun vs H Q E h => ?_) (fun f cdv A outer s H vs Q E hr h => ?_)
  · obtain ⟨y, l, n, ps, os, rfl, _⟩ := h
    rfl
  · obtain ⟨y, l, n, ps, os, rfl, hy, ho, io, n30, q⟩ := h
    refine ⟨_, pss_one (ps_if (pt_cmpR (r := rNeD K) (op_neD (hu64 hr)) (pe_callB cr_sortedI (by rfl) B.sorted (by decide +kernel) (pa_cons (pv 1) pa_nil)) (pe_listRg rfl (by rfl) B.list (prg_1 (by rfl) B.range (pe_hasM0 (pv 0) T.cl M hr (by decide)))) (by with_unfolding_all rfl)) pss_never pss_nil), ?_⟩
    refine ⟨_, rfl, l, os, rfl, ho.sq, fun ns p pm sr np => ?_⟩
    have e := io.sort pm sr
    subst e
    have s1 := same_new (o := .lst ((upTo n).map V.int)) np
    obtain ⟨dx, tl, td, dg, g1, g2, g3, g4⟩ := id (hy.same s1)
    refine ⟨_, rfl, y, dx, _, rfl, g1, look_no n tl td dg (by decide +kernel) (by decide +kernel) (by decide +kernel) (by decide +kernel), y, n, ps, rfl, hy.same s1, (n : Int), rfl, RgOk.of_le (by omega) (by omega) (by omega) (by omega), fun r nr => ?_⟩
    rw [rgV_upTo]
    have s2 := same_new (o := .lst ((upTo n).map V.int)) nr
    refine ⟨.list ((upTo n).map .int), .list ((upTo n).map .int), di_dp (SqL.of (s2 _ _ upd_same)), di_dp (SqL.of upd_same), di_shaped _, di_shaped _, _, rfl, ?_⟩
    rw [di_eqv, decide_eq_true rfl]
    exact iteF (q _ (s1.trans s2))
def spGaps (C : Addr) : Sp := fun vs H Q _ => ∃ (y l : Addr) (n : Nat) (ps : List (Int × Int)) (os : List Int), vs = [.ref y, .ref l] ∧ YardAt C H y n ps ∧ OrdAt H l os ∧ IsOrd n os ∧ n ≤ 30 ∧
  ∀ H' g, Same H H' → H g = none → OrdAt H' g ((gapsOf ps os).map fun i : Nat => (i : Int)) → Q (.ref g) H'
abbrev nGaps : List Str := ["yard", "order", "following", "at", "one", "other"]
theorem scGaps : FnScope nGaps ["yard", "order"] (defScope s_gaps) := ⟨rfl, rfl, rfl, by decide +kernel, rfl, by decide +kernel, by decide +kernel⟩
theorem nxt_get (os : List Int) {i : Nat} (h : i < os.length) : (os.drop 1 ++ os.take 1)[i]? = some ((os ++ os).getD (i + 1) 0) := by
  rw [List.getD_eq_getElem?_getD]
  by_cases h1 : i + 1 < os.length
  · rw [List.getElem?_append_left (by rw [List.length_drop]; omega), List.getElem?_append_left h1, List.getElem?_drop, Nat.add_comm 1 i, List.getElem?_eq_getElem h1]
    rfl
  · have e : i + 1 = os.length := by omega
    rw [List.getElem?_append_right (by rw [List.length_drop]; omega), List.getElem?_append_right (by omega), List.length_drop, e, show i - (os.length - 1) = 0 from by omega, Nat.sub_self]
    cases os with
    | nil => simp at h
    | cons x r => rfl
theorem has_gaps (D : IsDef K mg "gaps" s_gaps) (B : Blt mg) (T : YTxt K mg C) (CK : Has P w K mg base 2 "check_order" ["yard", "order"] (spCheckOrd C)) (TD : HasM P w K mg base C 1 "is_tied" ["self", "one", "other"] (spTied C)) : Has P w K mg base 3 "gaps" ["yard", "order"] (spGaps C) := by
  refine has_of D scGaps (fun _ _ _ _ _ _ us hl => match us, hl with | [_, _], _ => rfl) (fun vs H Q E h => ?_) (fun f cdv A outer s H vs Q E hr h => ?_)
  · obtain ⟨y, l, n, ps, os, rfl, _⟩ := h
    rfl
  · obtain ⟨y, l, n, ps, os, rfl, hy, ho, io, n30, q⟩ := h
    refine ⟨_, pss_cons (ps_expr (pe_has CK hr (by decide) (by rfl) (pa_cons (pv 0) (pa_cons (pv 1) pa_nil))))
      (pss_cons (ps_set (i := 2) scGaps.nd rfl (.inl rfl) (pe_op op_cat (pe_slice sl_list (pv 1) (po_some pe_int) po_none) (pe_slice sl_list (pv 1) po_none (po_some pe_int))))
      (pss_one (ps_ret (pe_lc (own := [("at", 3), ("one", 4), ("other", 5)]) (g := gTup K 2 (gCons (gName 3) (gCons (gTup K 2 (gCons (gName 4) (gCons (gName 5) gNil))) gNil))) (by rfl) scGaps.nd (pi_enumzip (by rfl) B.enumerate (by rfl) B.zip (pa_cons (pv 1) (pa_cons (pv 2) pa_nil))) (blkOk_by (N := nGaps) (sc := defScope s_gaps) (by decide +kernel))
        (fun _ _ _ _ _ => by exact pg_tup rfl (pgs_cons (pg_name (i := 3) scGaps.nd rfl (.inl rfl)) (pgs_cons (pg_tup rfl (pgs_cons (pg_name (i := 4) scGaps.nd rfl (.inl rfl)) (pgs_cons (pg_name (i := 5) scGaps.nd rfl (.inl rfl)) pgs_nil))) pgs_nil)))
        (fun _ _ _ _ _ => pts_one (pt_not (pt_val (pe_hasM (pv 0) T.cl TD hr (by decide) (pa_cons (pv 4) (pa_cons (pv 5) pa_nil)))))) (fun _ _ _ _ _ => pv 3))))), ?_⟩
    have hlen := io.len
    refine ⟨_, rfl, _, rfl, y, l, n, ps, os, rfl, hy, ho, io, n30, fun H1 s1 => ?_⟩
    have ho1 := ho.same s1
    refine ⟨_, rfl, 1, rfl, l, _, rfl, ho1.sq, fun a na => ?_⟩
    have sa := same_new (o := .lst (cutV (os.map V.int) (some 1) none)) na
    refine ⟨_, rfl, 1, rfl, l, _, rfl, (ho1.same sa).sq, fun b nb => ?_⟩
    have sb := same_new (o := .lst (cutV (os.map V.int) none (some 1))) nb
    have ea : upd (upd H1 a (.lst (cutV (os.map V.int) (some 1) none))) b (.lst (cutV (os.map V.int) none (some 1))) a = some (.lst ((os.drop 1).map V.int)) := by
      rw [sb _ _ upd_same, show (some (1 : Int)) = some ((1 : Nat) : Int) from rfl, cut_from, List.map_drop]
    have eb : upd (upd H1 a (.lst (cutV (os.map V.int) (some 1) none))) b (.lst (cutV (os.map V.int) none (some 1))) b = some (.lst ((os.take 1).map V.int)) := by
      rw [upd_same, show (some (1 : Int)) = some ((1 : Nat) : Int) from rfl, cut_to, List.map_take]
    generalize hH2 : upd (upd H1 a (.lst (cutV (os.map V.int) (some 1) none))) b (.lst (cutV (os.map V.int) none (some 1))) = H2 at ea eb sb
    have s2 : Same H1 H2 := sa.trans sb
    refine ⟨a, b, _, _, rfl, rfl, ea, eb, ?_, fun c nc => ?_⟩
    · rw [List.length_map, List.length_map, List.length_drop, List.length_take, sizeLine_eq]
      omega
    rw [← List.map_append]
    have sc := same_new (o := .lst ((os.drop 1 ++ os.take 1).map V.int)) nc
    have s3 : Same H1 (upd H2 c (.lst ((os.drop 1 ++ os.take 1).map V.int))) := s2.trans sc
    have ec : OrdAt (upd H2 c (.lst ((os.drop 1 ++ os.take 1).map V.int))) c (os.drop 1 ++ os.take 1) := upd_same
    generalize upd H2 c (.lst ((os.drop 1 ++ os.take 1).map V.int)) = H3 at s3 ec
    have lfol : (os.drop 1 ++ os.take 1).length = os.length := by
      rw [List.length_append, List.length_drop, List.length_take]
      omega
    have ho3 := ho1.same s3
    refine ⟨_, rfl, _, rfl, l, c, _, _, rfl, ho3.sq, ec.sq, fun D nD => ?_⟩
    have lD : l ≠ D := ne_of_none ho3 nD
    have cD : c ≠ D := ne_of_none ec nD
    refine lc_ez (K := K) (a := l) (b := c) (xs := os.map V.int) (ys := (os.drop 1 ++ os.take 1).map V.int) (fun i H4 => Kp D H3 H4 ∧ OrdAt H4 D (((List.range i).filter (gapAt ps os)).map fun i : Nat => (i : Int)))
      ⟨Kp.put _ _ _, upd_same⟩ (fun i H4 _ ⟨kp, _⟩ => ⟨OrdAt.sq (kp l _ lD ho3), OrdAt.sq (kp c _ cD ec)⟩) (by rw [List.length_map, List.length_map, lfol]) ?_ ?_
    · rintro i x z H4 T U hx hz ⟨kp, eD⟩ nT nU ne
      have hi : i < os.length := by
        have := (List.getElem?_eq_some_iff.mp hx).1
        rwa [List.length_map] at this
      obtain rfl : x = .int (os.getD i 0) := by
        rw [List.getElem?_map, List.getElem?_eq_getElem hi] at hx
        injection hx with hx
        rw [← hx, List.getD_eq_getElem?_getD, List.getElem?_eq_getElem hi]
        rfl
      obtain rfl : z = .int ((os ++ os).getD (i + 1) 0) := by
        rw [List.getElem?_map, nxt_get os hi] at hz
        injection hz with hz
        exact hz.symm
      have s4 : Same H3 H4 := fun c o e => kp c o (ne_of_none e nD) e
      have sT := same_new (o := .tup [.int (os.getD i 0), .int ((os ++ os).getD (i + 1) 0)]) nT
      have sU : Same (upd H4 T (.tup [.int (os.getD i 0), .int ((os ++ os).getD (i + 1) 0)])) (upd (upd H4 T (.tup [.int (os.getD i 0), .int ((os ++ os).getD (i + 1) 0)])) U (.tup [.int (i : Nat), .ref T])) := same_new ((upd_ne ne).trans nU)
      have s5 := sT.trans sU
      refine ⟨U, _, rfl, SqT.of upd_same, rfl, _, _, rfl, _, _, rfl, ⟨T, _, rfl, SqT.of (sU _ _ upd_same), rfl, _, _, rfl, _, _, rfl, rfl, rfl, rfl, ?_⟩⟩
      have hy5 := hy.same (s1.trans (s3.trans (s4.trans s5)))
      generalize upd (upd H4 T (.tup [.int (os.getD i 0), .int ((os ++ os).getD (i + 1) 0)])) U (.tup [.int (i : Nat), .ref T]) = H5 at s5 hy5
      obtain ⟨dx, tl, td, dg, g1, g2, g3, g4⟩ := id hy5
      refine ⟨_, rfl, y, dx, _, rfl, g1, look_no n tl td dg (by decide +kernel) (by decide +kernel) (by decide +kernel) (by decide +kernel), _, rfl, _, rfl, y, n, ps, _, _, rfl, hy5, fun H6 s6 => ⟨_, rfl, ?_⟩⟩
      have eD6 : OrdAt H6 D (((List.range i).filter (gapAt ps os)).map fun i : Nat => (i : Int)) := (s5.trans s6) _ _ eD
      have k6 : Kp D H3 H6 := kp.trans (Same.kp (s5.trans s6) D)
      have e0 : (List.range (i + 1)).filter (gapAt ps os) = (List.range i).filter (gapAt ps os) ++ [i].filter (gapAt ps os) := by
        rw [List.range_succ, List.filter_append]
      cases hb : tied ps (os.getD i 0) ((os ++ os).getD (i + 1) 0) with
      | true =>
        have g0 : gapAt ps os i = false := by
          unfold gapAt
          rw [hb]
          rfl
        refine iteF ⟨k6, ?_⟩
        rw [e0, List.filter_cons, g0]
        simpa using eD6
      | false =>
        have g0 : gapAt ps os i = true := by
          unfold gapAt
          rw [hb]
          rfl
        refine iteT ⟨_, rfl, _, eD6, ?_, fun b o nb e => ?_, ?_⟩
        · rw [List.length_map, List.length_map]
          have := List.length_filter_le (gapAt ps os) (List.range i)
          rw [List.length_range] at this
          exact small1000 (by omega)
        · rw [upd_ne nb]
          exact k6 b o nb e
        · unfold OrdAt
          rw [upd_same, e0, List.filter_cons, g0]
          simp
    · rintro H4 ⟨kp, eD⟩
      refine q H4 D (fun b o e => kp b o (ne_of_none (s3 _ _ (s1 _ _ e)) nD) (s3 _ _ (s1 _ _ e))) ?_ ?_
      · exact s1.free (s3.free nD)
      · rwa [List.length_map] at eD
end
end DR

set_option Elab.async false
set_option linter.all false
set_option maxRecDepth 100000
set_option maxHeartbeats 4000000
namespace DR
open PySem PySem.Spec PyProof.Rows L2
section
variable {P : Program} {w : World} {K : PySem.W.Frag} {mg : Str → Option Value} {base : Heap} {C : Addr}
def spBegun : Sp := fun vs H Q _ => ∃ (l : Addr) (os : List Int) (a : Nat), vs = [.ref l, .int (a : Int)] ∧ OrdAt H l os ∧ os.length ≤ 1000 ∧ ∀ H' r, Same H H' → H r = none → OrdAt H' r (rowAt os a) → Q (.ref r) H'
theorem scBegun : FnScope ["order", "at"] ["order", "at"] (defScope s_begun_behind) := ⟨rfl, rfl, rfl, by decide +kernel, rfl, by decide +kernel, by decide +kernel⟩
theorem has_begun (D : IsDef K mg "begun_behind" s_begun_behind) : Has P w K mg base 1 "begun_behind" ["order", "at"] spBegun := by
  refine has_of D scBegun (fun _ _ _ _ _ _ us hl => match us, hl with | [_, _], _ => rfl) (fun vs H Q E h => ?_) (fun f cdv A outer s H vs Q E hr h => ?_)
  · obtain ⟨l, os, a, rfl, _⟩ := h
    rfl
  · obtain ⟨l, os, a, rfl, ho, len, q⟩ := h
    refine ⟨_, pss_one (ps_ret (pe_op op_cat (pe_slice sl_list (pv 0) (po_some (pe_op op_add (pv 1) pe_int)) po_none) (pe_slice sl_list (pv 0) po_none (po_some (pe_op op_add (pv 1) pe_int))))), ?_⟩
    have e1 : (a : Int) + 1 = ((a + 1 : Nat) : Int) := by omega
    refine ⟨_, rfl, _, rfl, _, _, rfl, rfl, _, rfl, l, _, rfl, ho.sq, fun b nb => ?_⟩
    dsimp only
    rw [e1, cut_from, ← List.map_drop]
    have sb := same_new (o := .lst ((os.drop (a + 1)).map V.int)) nb
    refine ⟨_, rfl, _, rfl, _, _, rfl, rfl, _, rfl, l, _, rfl, (ho.same sb).sq, fun c nc => ?_⟩
    dsimp only
    rw [e1, cut_to, ← List.map_take]
    have sc := same_new (o := .lst ((os.take (a + 1)).map V.int)) nc
    refine ⟨b, c, _, _, rfl, rfl, sc _ _ upd_same, upd_same, ?_, fun d nd => ?_⟩
    · rw [List.length_map, List.length_map, List.length_drop, List.length_take, sizeLine_eq]
      omega
    rw [← List.map_append]
    have sd := same_new (o := .lst ((os.drop (a + 1) ++ os.take (a + 1)).map V.int)) nd
    exact q _ d (sb.trans (sc.trans sd)) ((sb.trans sc).free nd) upd_same
end
end DR

set_option Elab.async false
set_option linter.all false
set_option maxRecDepth 100000
set_option maxHeartbeats 4000000
namespace DR
open PySem PySem.Spec PyProof.Rows L2
section
variable {P : Program} {w : World} {K : PySem.W.Frag} {mg : Str → Option Value} {base : Heap} {C : Addr}
def spTurned (C : Addr) : Sp := fun vs H Q _ => ∃ (y l : Addr) (n : Nat) (ps : List (Int × Int)) (os : List Int) (a b : Nat), vs = [.ref y, .ref l, .int (a : Int), .int (b : Int)] ∧ YardAt C H y n ps ∧ OrdAt H l os ∧ IsOrd n os ∧ n ≤ 30 ∧ a < n ∧ b + 1 < n ∧
  ∀ H' r, Same H H' → H r = none → OrdAt H' r (turnedOf os a b) → Q (.ref r) H'
abbrev nTurned : List Str := ["yard", "order", "at", "back", "row"]
theorem scTurned : FnScope nTurned ["yard", "order", "at", "back"] (defScope s_turned) := ⟨rfl, rfl, rfl, by decide +kernel, rfl, by decide +kernel, by decide +kernel⟩
theorem has_turned (D : IsDef K mg "turned" s_turned) (B : Blt mg) (CK : Has P w K mg base 2 "check_order" ["yard", "order"] (spCheckOrd C)) (BG : Has P w K mg base 1 "begun_behind" ["order", "at"] spBegun) : Has P w K mg base 3 "turned" ["yard", "order", "at", "back"] (spTurned C) := by
  refine has_of D scTurned (fun _ _ _ _ _ _ us hl => match us, hl with | [_, _, _, _], _ => rfl) (fun vs H Q E h => ?_) (fun f cdv A outer s H vs Q E hr h => ?_)
  · obtain ⟨y, l, n, ps, os, a, b, rfl, _⟩ := h
    rfl
  · obtain ⟨y, l, n, ps, os, a, b, rfl, hy, ho, io, n30, ha, hb, q⟩ := h
    refine ⟨_, pss_cons (ps_expr (pe_has CK hr (by decide) (by rfl) (pa_cons (pv 0) (pa_cons (pv 1) pa_nil))))
      (pss_cons (ps_if (pt_not (pt_chain op_le op_lt pe_int (pv 2) (pe_callB call_len_seq (by rfl) B.len PySem.boot_len (pa_cons (pv 1) pa_nil)))) pss_never pss_nil)
      (pss_cons (ps_if (pt_not (pt_chain op_le op_lt pe_int (pv 3) (pe_op op_sub (pe_callB call_len_seq (by rfl) B.len PySem.boot_len (pa_cons (pv 1) pa_nil)) pe_int))) pss_never pss_nil)
      (pss_cons (ps_set (i := 4) scTurned.nd rfl (.inl rfl) (pe_has BG hr (by decide) (by rfl) (pa_cons (pv 1) (pa_cons (pv 2) pa_nil))))
      (pss_one (ps_ret (pe_op op_cat (pe_revL (pe_slice sl_list (pv 4) po_none (po_some (pe_op op_add (pv 3) pe_int)))) (pe_slice sl_list (pv 4) (po_some (pe_op op_add (pv 3) pe_int)) po_none))))))), ?_⟩
    have hlen := io.len
    refine ⟨_, rfl, _, rfl, y, l, n, ps, os, rfl, hy, ho, io, n30, fun H1 s1 => ?_⟩
    have ho1 := ho.same s1
    refine ⟨_, rfl, _, _, rfl, rfl, _, rfl, iteD (by omega) ?_⟩
    refine ⟨_, rfl, l, _, rfl, .inl ho1.sq, _, _, rfl, rfl, _, rfl, iteNS (show (a : Int) < ((os.map V.int).length : Int) by rw [List.length_map]; omega) ?_⟩
    refine ⟨_, rfl, _, _, rfl, rfl, _, rfl, iteD (by omega) ?_⟩
    refine ⟨_, rfl, l, _, rfl, .inl ho1.sq, _, _, rfl, rfl, _, _, rfl, rfl, _, rfl, iteNS (show (b : Int) < ((os.map V.int).length : Int) - 1 by rw [List.length_map]; omega) ?_⟩
    refine ⟨_, rfl, _, rfl, l, os, a, rfl, ho1, by omega, fun H2 r s2 nr hr2 => ?_⟩
    have lrow := rowAt_len os (a := a) (by omega)
    have e1 : (b : Int) + 1 = ((b + 1 : Nat) : Int) := by omega
    refine ⟨_, rfl, _, rfl, _, _, rfl, rfl, _, rfl, r, _, rfl, hr2.sq, fun c nc => ?_⟩
    dsimp only
    rw [e1, cut_to, ← List.map_take]
    have sc := same_new (o := .lst (((rowAt os a).take (b + 1)).map V.int)) nc
    refine ⟨c, _, rfl, SqL.of upd_same, fun d nd => ?_⟩
    rw [← List.map_reverse]
    have sd := same_new (o := .lst (((rowAt os a).take (b + 1)).reverse.map V.int)) nd
    refine ⟨_, rfl, _, rfl, _, _, rfl, rfl, _, rfl, r, _, rfl, ((hr2.same sc).same sd).sq, fun e ne => ?_⟩
    dsimp only
    rw [e1, cut_from, ← List.map_drop]
    have se := same_new (o := .lst (((rowAt os a).drop (b + 1)).map V.int)) ne
    refine ⟨d, e, _, _, rfl, rfl, se _ _ upd_same, upd_same, ?_, fun g ng => ?_⟩
    · rw [List.length_map, List.length_map, List.length_drop, List.length_reverse, List.length_take, sizeLine_eq]
      omega
    rw [← List.map_append]
    have sg := same_new (o := .lst ((((rowAt os a).take (b + 1)).reverse ++ (rowAt os a).drop (b + 1)).map V.int)) ng
    have sall := s2.trans (sc.trans (sd.trans se))
    exact q _ g (s1.trans (sall.trans sg)) (s1.free (sall.free ng)) upd_same
end
end DR

set_option Elab.async false
set_option linter.all false
set_option maxRecDepth 100000
set_option maxHeartbeats 4000000
namespace DR
open PySem PySem.Spec PyProof.Rows L2
section
variable {P : Program} {w : World} {K : PySem.W.Frag} {mg : Str → Option Value} {base : Heap} {C : Addr}
def spIsRound (C : Addr) : Sp := fun vs H Q _ => ∃ (y l : Addr) (n : Nat) (ps : List (Int × Int)) (os : List Int), vs = [.ref y, .ref l] ∧ YardAt C H y n ps ∧ OrdAt H l os ∧ IsOrd n os ∧ n ≤ 30 ∧ ∀ H', Same H H' → Q (.bl (isRound n ps os)) H'
theorem scIsRound : FnScope ["yard", "order", "found"] ["yard", "order"] (defScope s_is_round) := ⟨rfl, rfl, rfl, by decide +kernel, rfl, by decide +kernel, by decide +kernel⟩
theorem has_isround (D : IsDef K mg "is_round" s_is_round) (T : YTxt K mg C) (G : Has P w K mg base 3 "gaps" ["yard", "order"] (spGaps C)) (M : HasM P w K mg base C 1 "many" ["self"] (spMany C)) : Has P w K mg base 4 "is_round" ["yard", "order"] (spIsRound C) := by
  refine has_of D scIsRound (fun _ _ _ _ _ _ us hl => match us, hl with | [_, _], _ => rfl) (fun vs H Q E h => ?_) (fun f cdv A outer s H vs Q E hr h => ?_)
  · obtain ⟨y, l, n, ps, os, rfl, _⟩ := h
    rfl
  · obtain ⟨y, l, n, ps, os, rfl, hy, ho, io, n30, q⟩ := h
    refine ⟨_, pss_cons (ps_set (i := 2) scIsRound.nd rfl (.inl rfl) (pe_has G hr (by decide) (by rfl) (pa_cons (pv 0) (pa_cons (pv 1) pa_nil))))
      (pss_one (ps_ret (pe_and (pe_cmpR op_ge (pe_hasM0 (pv 0) T.cl M hr (by decide)) pe_int (nomark _)) (pe_one (pe_notT (pv 2)))))), ?_⟩
    refine ⟨_, rfl, _, rfl, y, l, n, ps, os, rfl, hy, ho, io, n30, fun H1 g s1 ng hg => ?_⟩
    have hy1 := hy.same s1
    obtain ⟨dx, tl, td, dg, g1, g2, g3, g4⟩ := id hy1
    refine ⟨_, rfl, y, dx, _, rfl, g1, look_no n tl td dg (by decide +kernel) (by decide +kernel) (by decide +kernel) (by decide +kernel), y, n, ps, rfl, hy1, _, _, rfl, rfl, _, rfl, ?_⟩
    by_cases c : (3 : Int) ≤ (n : Int)
    · rw [decide_eq_true c]
      refine iteT ⟨_, rfl, (gapsOf ps os).isEmpty.not, ?_, ?_⟩
      · exact .inl ⟨_, SqL.of hg, by simp⟩
      · have e : isRound n ps os = !((gapsOf ps os).isEmpty.not) := by
          unfold isRound
          rw [decide_eq_true (show 3 ≤ n by omega)]
          simp
        rw [← e]
        exact q _ s1
    · rw [decide_eq_false c]
      have e : isRound n ps os = false := by
        unfold isRound
        rw [decide_eq_false (show ¬ 3 ≤ n by omega)]
        rfl
      have q1 := q _ s1
      rw [e] at q1
      exact iteF q1
end
end DR


set_option Elab.async false
set_option linter.all false
set_option maxRecDepth 100000
set_option maxHeartbeats 4000000
namespace DR
open PySem PySem.Spec PyProof.Rows L2
section
variable {P : Program} {w : World} {K : PySem.W.Frag} {mg : Str → Option Value} {base : Heap} {C : Addr}
def spLeast (C : Addr) : Sp := fun vs H Q _ => ∃ (y l : Addr) (n : Nat) (ps : List (Int × Int)) (os : List Int) (a : Nat), vs = [.ref y, .ref l, .int (a : Int)] ∧ YardAt C H y n ps ∧ OrdAt H l os ∧ os.length ≤ 30 ∧ a < os.length ∧ ∀ H', Same H H' → Q (optV (leastBack ps os a)) H'
abbrev nLeast : List Str := ["yard", "order", "at", "row", "back"]
theorem scLeast : FnScope nLeast ["yard", "order", "at"] (defScope s_least_back) := ⟨rfl, rfl, rfl, by decide +kernel, rfl, by decide +kernel, by decide +kernel⟩
theorem has_least (D : IsDef K mg "least_back" s_least_back) (B : Blt mg) (T : YTxt K mg C) (BG : Has P w K mg base 1 "begun_behind" ["order", "at"] spBegun) (TD : HasM P w K mg base C 1 "is_tied" ["self", "one", "other"] (spTied C)) : Has P w K mg base 2 "least_back" ["yard", "order", "at"] (spLeast C) := by
  refine has_of D scLeast (fun _ _ _ _ _ _ us hl => match us, hl with | [_, _, _], _ => rfl) (fun vs H Q E h => ?_) (fun f cdv A outer s H vs Q E hr h => ?_)
  · obtain ⟨y, l, n, ps, os, a, rfl, _⟩ := h
    rfl
  · obtain ⟨y, l, n, ps, os, a, rfl, hy, ho, len, ha, q⟩ := h
    refine ⟨_, pss_cons (ps_set (i := 3) scLeast.nd rfl (.inl rfl) (pe_has BG hr (by decide) (by rfl) (pa_cons (pv 1) (pa_cons (pv 2) pa_nil))))
      (pss_cons (ps_for PassesOwn.never rfl (pi_range2 (by rfl) B.range (pa_cons pe_int (pa_cons (pe_op op_sub (pe_callB call_len_seq (by rfl) B.len PySem.boot_len (pa_cons (pv 3) pa_nil)) pe_int) pa_nil))) (pg_name (i := 4) scLeast.nd rfl (.inl rfl))
        (pss_one (ps_if (PW.pt (pw_and (pt_val (pe_hasM (pv 0) T.cl TD hr (by decide) (pa_cons (pe_ix (r := rIxL K) ix_list (pv 3) pe_int (fun _ _ => rfl)) (pa_cons (pe_ix (r := rIxL K) ix_list (pv 3) (pe_op op_add (pv 4) pe_int) (fun _ _ => rfl)) pa_nil))))
          (pw_and1 (pt_val (pe_hasM (pv 0) T.cl TD hr (by decide) (pa_cons (pe_ix (r := rIxL K) ix_list (pv 3) (pe_un un_neg pe_int) (fun _ _ => rfl)) (pa_cons (pe_ix (r := rIxL K) ix_list (pv 3) (pv 4) (fun _ _ => rfl)) pa_nil))))))) (pss_one (ps_ret (pv 4))) pss_nil)))
      (pss_one (ps_ret pe_non))), ?_⟩
    refine ⟨_, rfl, _, rfl, l, os, a, rfl, ho, by omega, fun H1 r s1 nr hr1 => ?_⟩
    have lrow := rowAt_len os ha
    refine ⟨_, rfl, r, _, rfl, .inl hr1.sq, _, _, rfl, rfl, _, _, rfl, ⟨by omega, by omega, ?_, ?_⟩, ?_⟩
    · rw [List.length_map]
      omega
    · rw [List.length_map]
      omega
    have e0 : (((rowAt os a).map V.int).length : Int) - 1 - 1 = ((os.length - 2 : Nat) : Int) ∨ os.length = 1 := by
      rw [List.length_map, lrow]
      omega
    have e1 : ((((rowAt os a).map V.int).length : Int) - 1 - 1).toNat = os.length - 2 := by
      rw [List.length_map, lrow]
      omega
    rw [e1]
    refine for_range (lo := 1) (n := os.length - 2) (fun j σ H2 => (∃ x : Option V, σ = [some (.ref y), some (.ref l), some (.int (a : Int)), some (.ref r), x]) ∧ Same H1 H2 ∧ ∀ i < j, closes ps os a (i + 1) = false) ⟨⟨none, rfl⟩, Same.refl _, fun i hi => absurd hi (Nat.not_lt_zero _)⟩ ?_ ?_
    · rintro j σ H2 hj ⟨⟨x, rfl⟩, s2, pre⟩
      have hr2 := hr1.same s2
      have hy2 := hy.same (s1.trans s2)
      obtain ⟨dx, tl, td, dg, g1, g2, g3, g4⟩ := id hy2
      have ej : (1 : Int) + (j : Int) = ((j + 1 : Nat) : Int) := by omega
      refine ⟨_, rfl, y, dx, _, rfl, g1, look_no n tl td dg (by decide +kernel) (by decide +kernel) (by decide +kernel) (by decide +kernel), ?_⟩
      have a0 : atI ((rowAt os a).map V.int) 0 = some (.int ((rowAt os a).getD 0 0)) := hr2.at_ (i := 0) (by omega)
      have a1 : atI ((rowAt os a).map V.int) ((1 : Int) + (j : Int) + 1) = some (.int ((rowAt os a).getD (j + 1 + 1) 0)) := by
        rw [show (1 : Int) + (j : Int) + 1 = ((j + 1 + 1 : Nat) : Int) by omega]
        exact hr2.at_ (by omega)
      have a2 : atI ((rowAt os a).map V.int) ((1 : Int) + (j : Int)) = some (.int ((rowAt os a).getD (j + 1) 0)) := by
        rw [ej]
        exact hr2.at_ (by omega)
      have a3 : atI ((rowAt os a).map V.int) (-1) = some (.int ((rowAt os a).getD (os.length - 1) 0)) := by
        have := hr2.atI_end (by omega)
        rwa [lrow] at this
      refine ⟨_, rfl, r, _, _, _, rfl, rfl, hr2.sq, a0, _, rfl, _, rfl, _, _, rfl, rfl, r, _, _, _, rfl, rfl, hr2.sq, a1, ?_⟩
      refine ⟨y, n, ps, _, _, rfl, hy2, fun H3 s3 => ⟨_, rfl, ?_⟩⟩
      have hr3 := hr2.same s3
      have hy3 := hy2.same s3
      have next : ∀ H4, Same H2 H4 → closes ps os a (j + 1) = false → ((∃ x : Option V, [some (.ref y), some (.ref l), some (.int (a : Int)), some (.ref r), some (.int (1 + (j : Int)))] = [some (.ref y), some (.ref l), some (.int (a : Int)), some (.ref r), x]) ∧ Same H1 H4 ∧ ∀ i < j + 1, closes ps os a (i + 1) = false) := fun H4 s4 c => ⟨⟨_, rfl⟩, s2.trans s4, fun i hi => by
        by_cases e : i = j
        · rw [e]
          exact c
        · exact pre i (by omega)⟩
      cases t1 : tied ps ((rowAt os a).getD 0 0) ((rowAt os a).getD (j + 1 + 1) 0) with
      | false =>
        refine iteF (iteF (next H3 s3 ?_))
        unfold closes
        rw [t1]
        rfl
      | true =>
        obtain ⟨dx, tl, td, dg, g1, g2, g3, g4⟩ := id hy3
        refine iteT ⟨_, rfl, y, dx, _, rfl, g1, look_no n tl td dg (by decide +kernel) (by decide +kernel) (by decide +kernel) (by decide +kernel), ?_⟩
        refine ⟨_, rfl, _, rfl, r, _, _, _, rfl, rfl, hr3.sq, a3, _, rfl, _, rfl, r, _, _, _, rfl, rfl, hr3.sq, a2, ?_⟩
        refine ⟨y, n, ps, _, _, rfl, hy3, fun H4 s4 => ⟨_, rfl, ?_⟩⟩
        cases t2 : tied ps ((rowAt os a).getD (os.length - 1) 0) ((rowAt os a).getD (j + 1) 0) with
        | false =>
          refine iteF (next H4 (s3.trans s4) ?_)
          unfold closes
          rw [t1, t2]
          rfl
        | true =>
          have c : closes ps os a (j + 1) = true := by
            unfold closes
            rw [t1, t2]
            rfl
          have q4 := q H4 (s1.trans (s2.trans (s3.trans s4)))
          rw [lb_some hj pre c] at q4
          refine iteT ⟨_, rfl, ?_⟩
          rw [ej]
          exact q4
    · rintro σ H2 ⟨⟨x, rfl⟩, s2, pre⟩
      have q2 := q H2 (s1.trans s2)
      rw [lb_none pre] at q2
      exact q2
end
end DR

set_option Elab.async false
set_option linter.all false
set_option maxRecDepth 100000
set_option maxHeartbeats 4000000
namespace DR
open PySem PySem.Spec PyProof.Rows L2
/-- a turning, or None -/
def TurnV (H : Hp) (v : V) : Option (Nat × Nat) → Prop
  | none => v = .non
  | some p => ∃ t, v = .ref t ∧ H t = some (.tup [.int (p.1 : Int), .int (p.2 : Int)])
theorem TurnV.same {H H' : Hp} {v : V} {o : Option (Nat × Nat)} (h : TurnV H v o) (s : Same H H') : TurnV H' v o := by
  cases o with
  | none => exact h
  | some p =>
    obtain ⟨t, e, h⟩ := h
    exact ⟨t, e, s _ _ h⟩
theorem mem_gaps {ps : List (Int × Int)} {os : List Int} {a : Nat} (h : a ∈ gapsOf ps os) : a < os.length := List.mem_range.mp (List.mem_filter.mp h).1
section
variable {P : Program} {w : World} {K : PySem.W.Frag} {mg : Str → Option Value} {base : Heap} {C : Addr}
def spFirst (C : Addr) : Sp := fun vs H Q _ => ∃ (y l : Addr) (n : Nat) (ps : List (Int × Int)) (os : List Int), vs = [.ref y, .ref l] ∧ YardAt C H y n ps ∧ OrdAt H l os ∧ IsOrd n os ∧ n ≤ 30 ∧ ∀ H' v, Same H H' → TurnV H' v (firstTurning ps os) → Q v H'
abbrev nFirst : List Str := ["yard", "order", "at", "back"]
theorem scFirst : FnScope nFirst ["yard", "order"] (defScope s_first_turning) := ⟨rfl, rfl, rfl, by decide +kernel, rfl, by decide +kernel, by decide +kernel⟩
theorem has_first (D : IsDef K mg "first_turning" s_first_turning) (G : Has P w K mg base 3 "gaps" ["yard", "order"] (spGaps C)) (LB : Has P w K mg base 2 "least_back" ["yard", "order", "at"] (spLeast C)) : Has P w K mg base 4 "first_turning" ["yard", "order"] (spFirst C) := by
  refine has_of D scFirst (fun _ _ _ _ _ _ us hl => match us, hl with | [_, _], _ => rfl) (fun vs H Q E h => ?_) (fun f cdv A outer s H vs Q E hr h => ?_)
  · obtain ⟨y, l, n, ps, os, rfl, _⟩ := h
    rfl
  · obtain ⟨y, l, n, ps, os, rfl, hy, ho, io, n30, q⟩ := h
    refine ⟨_, pss_cons (ps_for PassesOwn.never rfl (pi_list (pe_has G hr (by decide) (by rfl) (pa_cons (pv 0) (pa_cons (pv 1) pa_nil)))) (pg_name (i := 2) scFirst.nd rfl (.inl rfl))
        (pss_cons (ps_set (i := 3) scFirst.nd rfl (.inl rfl) (pe_has LB hr (by decide) (by rfl) (pa_cons (pv 0) (pa_cons (pv 1) (pa_cons (pv 2) pa_nil)))))
        (pss_one (ps_if (pt_cmp (pc_notN (pv 3)) rfl) (pss_one (ps_ret (pe_tup (pa_cons (pv 2) (pa_cons (pv 3) pa_nil))))) pss_nil))))
      (pss_one (ps_ret pe_non)), ?_⟩
    have hlen := io.len
    refine ⟨_, rfl, _, rfl, y, l, n, ps, os, rfl, hy, ho, io, n30, fun H1 g s1 ng hg => ?_⟩
    refine ⟨g, rfl, ⟨_, hg.sq⟩, for_list (K := K) (a := g) (xs := ((gapsOf ps os).map fun i : Nat => (i : Int)).map V.int) (fun k σ H2 => (∃ x2 x3 : Option V, σ = [some (.ref y), some (.ref l), x2, x3]) ∧ Same H1 H2 ∧ ∀ a ∈ (gapsOf ps os).take k, leastBack ps os a = none)
      ⟨⟨none, none, rfl⟩, Same.refl _, fun a ha => by simp at ha⟩ (fun k σ H2 _ ⟨_, s2, _⟩ => (hg.same s2).sq) ?_ ?_⟩
    · rintro k x σ H2 hx ⟨⟨x2, x3, rfl⟩, s2, pre⟩
      obtain ⟨a, ha, rfl⟩ : ∃ a, (gapsOf ps os)[k]? = some a ∧ x = .int (a : Int) := by
        rw [List.getElem?_map, List.getElem?_map] at hx
        cases e : (gapsOf ps os)[k]? with
        | none =>
          rw [e] at hx
          cases hx
        | some a =>
          rw [e] at hx
          injection hx with hx
          exact ⟨a, rfl, hx.symm⟩
      have al := mem_gaps (List.mem_of_getElem? ha)
      refine ⟨_, rfl, _, rfl, _, rfl, y, l, n, ps, os, a, rfl, hy.same (s1.trans s2), ho.same (s1.trans s2), by omega, al, fun H3 s3 => ?_⟩
      cases hb : leastBack ps os a with
      | none =>
        refine ⟨_, rfl, _, rfl, iteF ⟨⟨_, _, rfl⟩, s2.trans s3, fun c hc => ?_⟩⟩
        rw [List.take_succ, ha] at hc
        rcases List.mem_append.mp hc with h | h
        · exact pre c h
        · rw [show c = a by simpa using h]
          exact hb
      | some b =>
        refine ⟨_, rfl, _, rfl, iteT ⟨_, rfl, _, rfl, (by show 2 ≤ sizeLine; decide), fun t nt => ?_⟩⟩
        refine q _ (.ref t) (s1.trans (s2.trans (s3.trans (same_new nt)))) ?_
        have e : firstTurning ps os = some (a, b) := fs_at ha (fun c hc => by rw [pre c hc]; rfl) (by rw [hb]; rfl)
        rw [e]
        exact ⟨t, rfl, upd_same⟩
    · rintro σ H2 ⟨⟨x2, x3, rfl⟩, s2, pre⟩
      refine q H2 .non (s1.trans s2) ?_
      have e : firstTurning ps os = none := by
        unfold firstTurning
        rw [List.findSome?_eq_none_iff]
        intro a ha
        rw [List.length_map, List.length_map, List.take_length] at pre
        rw [pre a ha]
        rfl
      rw [e]
      rfl
end
end DR

set_option Elab.async false
set_option linter.all false
set_option maxRecDepth 100000
set_option maxHeartbeats 4000000
namespace DR
open PySem PySem.Spec PyProof.Rows L2
def wordOf (n : Nat) (ps : List (Int × Int)) (os : List Int) : Str := if isRound n ps os = true then "round" else "stuck"
/-- what rounded tells -/
def RndAt (H : Hp) (t tl l : Addr) (n : Nat) (ps : List (Int × Int)) (os : List Int) : Prop := H t = some (.tup [.str (wordOf n ps (roundedOf ps os).2), .ref tl, .ref l]) ∧ PairsAt H tl (roundedOf ps os).1 ∧ OrdAt H l (roundedOf ps os).2
theorem RndAt.same {H H' : Hp} {t tl l : Addr} {n : Nat} {ps : List (Int × Int)} {os : List Int} (h : RndAt H t tl l n ps os) (s : Same H H') : RndAt H' t tl l n ps os := ⟨s _ _ h.1, h.2.1.same s, h.2.2.same s⟩
section
variable {P : Program} {w : World} {K : PySem.W.Frag} {mg : Str → Option Value} {base : Heap} {C : Addr}
def spRounded (C : Addr) : Sp := fun vs H Q _ => ∃ (y l : Addr) (n : Nat) (ps : List (Int × Int)) (os : List Int), vs = [.ref y, .ref l] ∧ YardAt C H y n ps ∧ OrdAt H l os ∧ IsOrd n os ∧ n ≤ 30 ∧
  ∀ H' t tl nl, Same H H' → H t = none → H tl = none → H nl = none → nl ≠ tl → RndAt H' t tl nl n ps os → Q (.ref t) H'
abbrev nRounded : List Str := ["yard", "order", "turnings", "now", "turning", "at", "back", "word"]
theorem scRounded : FnScope nRounded ["yard", "order"] (defScope s_rounded) := ⟨rfl, rfl, rfl, by decide +kernel, rfl, by decide +kernel, by decide +kernel⟩
theorem has_rounded (D : IsDef K mg "rounded" s_rounded) (B : Blt mg) (CK : Has P w K mg base 2 "check_order" ["yard", "order"] (spCheckOrd C)) (FT : Has P w K mg base 4 "first_turning" ["yard", "order"] (spFirst C))
    (TU : Has P w K mg base 3 "turned" ["yard", "order", "at", "back"] (spTurned C)) (IR : Has P w K mg base 4 "is_round" ["yard", "order"] (spIsRound C)) : Has P w K mg base 5 "rounded" ["yard", "order"] (spRounded C) := by
  refine has_of D scRounded (fun _ _ _ _ _ _ us hl => match us, hl with | [_, _], _ => rfl) (fun vs H Q E h => ?_) (fun f cdv A outer s H vs Q E hr h => ?_)
  · obtain ⟨y, l, n, ps, os, rfl, _⟩ := h
    rfl
  · obtain ⟨y, l, n, ps, os, rfl, hy, ho, io, n30, q⟩ := h
    refine ⟨_, pss_cons (ps_expr (pe_has CK hr (by decide) (by rfl) (pa_cons (pv 0) (pa_cons (pv 1) pa_nil))))
      (pss_cons (ps_set (i := 2) scRounded.nd rfl (.inl rfl) (pe_lst pa_nil))
      (pss_cons (ps_set (i := 3) scRounded.nd rfl (.inl rfl) (pe_callTy call_list_of (by rfl) B.list (by decide +kernel) (pa_cons (pv 1) pa_nil)))
      (pss_cons (ps_set (i := 4) scRounded.nd rfl (.inl rfl) (pe_has FT hr (by decide) (by rfl) (pa_cons (pv 0) (pa_cons (pv 3) pa_nil))))
      (pss_cons (ps_while PassesOwn.never (pt_cmp (pc_notN (pv 4)) rfl)
        (pss_cons (ps_asg (pv 4) (pg_tup rfl (pgs_cons (pg_name (i := 5) scRounded.nd rfl (.inl rfl)) (pgs_cons (pg_name (i := 6) scRounded.nd rfl (.inl rfl)) pgs_nil))))
        (pss_cons (ps_set (i := 3) scRounded.nd rfl (.inl rfl) (pe_has TU hr (by decide) (by rfl) (pa_cons (pv 0) (pa_cons (pv 3) (pa_cons (pv 5) (pa_cons (pv 6) pa_nil))))))
        (pss_cons (ps_expr (pe_bm PySem.F.plainAttrs_list PySem.F.slot_list_append PySem.F.type_list_append mt_append (pv 2) (pa_cons (pe_tup (pa_cons (pv 5) (pa_cons (pv 6) pa_nil))) pa_nil)))
        (pss_one (ps_set (i := 4) scRounded.nd rfl (.inl rfl) (pe_has FT hr (by decide) (by rfl) (pa_cons (pv 0) (pa_cons (pv 3) pa_nil)))))))))
      (pss_cons (ps_set (i := 7) scRounded.nd rfl (.inl rfl) (pe_ifExp (pt_val (pe_has IR hr (by decide) (by rfl) (pa_cons (pv 0) (pa_cons (pv 3) pa_nil)))) pe_str pe_str))
      (pss_one (ps_ret (pe_tup (pa_cons (pv 7) (pa_cons (pv 2) (pa_cons (pv 3) pa_nil))))))))))), ?_⟩
    have hlen := io.len
    refine ⟨_, rfl, _, rfl, y, l, n, ps, os, rfl, hy, ho, io, n30, fun H1 s1 => ?_⟩
    refine ⟨by show 0 ≤ sizeLine; decide, fun tl ntl => ?_⟩
    have st := same_new (o := .lst []) ntl
    refine ⟨_, rfl, l, _, rfl, .inl ((ho.same s1).same st).sq, fun nw nnw => ?_⟩
    have sn := same_new (o := .lst (os.map V.int)) nnw
    have et : upd (upd H1 tl (.lst [])) nw (.lst (os.map V.int)) tl = some (.lst []) := sn _ _ upd_same
    have en : OrdAt (upd (upd H1 tl (.lst [])) nw (.lst (os.map V.int))) nw os := upd_same
    have s2 : Same H1 (upd (upd H1 tl (.lst [])) nw (.lst (os.map V.int))) := st.trans sn
    have nt : nw ≠ tl := (none_upd nnw).1
    have nn0 : H1 nw = none := (none_upd nnw).2
    generalize upd (upd H1 tl (.lst [])) nw (.lst (os.map V.int)) = H2 at et en s2
    refine ⟨_, rfl, _, rfl, y, nw, n, ps, os, rfl, hy.same (s1.trans s2), en, io, n30, fun H3 v s3 hv => ?_⟩
    refine ⟨fun m σ H4 => ∃ (nw : Addr) (os' : List Int) (ts : List (Int × Int)) (v : V) (x5 x6 : Option V), σ = [some (.ref y), some (.ref l), some (.ref tl), some (.ref nw), some v, x5, x6, none] ∧ Same H1 H4 ∧ PairsAt H4 tl ts ∧ OrdAt H4 nw os' ∧ IsOrd n os' ∧ H1 nw = none ∧ nw ≠ tl ∧
        TurnV H4 v (firstTurning ps os') ∧ roundedOf ps os = (ts ++ (goes ps m os').1, (goes ps m os').2) ∧ (gapsOf ps os').length < m ∧ ts.length + m = n + 1,
      ⟨n + 1, nw, os, [], v, none, none, rfl, s2.trans s3, ⟨[], s3 _ _ et, .nil⟩, en.same s3, io, nn0, nt, hv, ?_, ?_, ?_⟩, ?_⟩
    · unfold roundedOf
      rw [hlen]
      rfl
    · have := gaps_le ps os
      omega
    · simp
    · rintro m σ H4 ⟨nw, os', ts, v, x5, x6, rfl, s4, pt, on, io', nn, ne, hv, er, hg, hm⟩
      refine ⟨_, rfl, _, rfl, ?_⟩
      cases hf : firstTurning ps os' with
      | none =>
        rw [hf] at hv
        obtain rfl : v = .non := hv
        refine iteF ?_
        rw [goes_none hf, List.append_nil] at er
        have e1 : (roundedOf ps os).1 = ts := by rw [er]
        have e2 : (roundedOf ps os).2 = os' := by rw [er]
        refine ⟨_, rfl, _, rfl, y, nw, n, ps, os', rfl, hy.same (s1.trans s4), on, io', n30, fun H5 s5 => ⟨_, rfl, ?_⟩⟩
        have fin : ∀ (wd : Str) (z : Addr), wd = wordOf n ps os' → H5 z = none → Q (.ref z) (upd H5 z (.tup [.str wd, .ref tl, .ref nw])) := fun wd z ew nz => by
          have sz := same_new (o := .tup [.str wd, .ref tl, .ref nw]) nz
          have s15 : Same H1 H5 := s4.trans s5
          refine q _ z tl nw (s1.trans (s15.trans sz)) (s1.free (s15.free nz)) (s1.free ntl) (s1.free nn) ne ⟨?_, ?_, ?_⟩
          · rw [upd_same, e2, ew]
          · rw [e1]
            exact (pt.same s5).same sz
          · rw [e2]
            exact (on.same s5).same sz
        cases hw : isRound n ps os' with
        | true =>
          refine iteT ⟨_, rfl, _, rfl, _, rfl, (by show 3 ≤ sizeLine; decide), fun z nz => fin _ z ?_ nz⟩
          unfold wordOf
          rw [hw]
          rfl
        | false =>
          refine iteF ⟨_, rfl, _, rfl, _, rfl, (by show 3 ≤ sizeLine; decide), fun z nz => fin _ z ?_ nz⟩
          unfold wordOf
          rw [hw]
          rfl
      | some p =>
        obtain ⟨a, b⟩ := p
        rw [hf] at hv
        obtain ⟨t, rfl, ht⟩ := hv
        obtain ⟨k1, k2, k3, k4, k5⟩ := ft_ok hf
        have hless := ft_less hf
        have hl' := io'.len
        cases m with
        | zero => exact absurd hg (Nat.not_lt_zero _)
        | succ m =>
          rw [goes_some hf] at er
          refine iteT ⟨_, fun σ' H' h => h, ?_⟩
          refine ⟨_, rfl, t, _, rfl, SqT.of ht, rfl, _, _, rfl, _, _, rfl, rfl, ?_⟩
          refine ⟨_, rfl, _, rfl, _, rfl, _, rfl, y, nw, n, ps, os', a, b, rfl, hy.same (s1.trans s4), on, io', n30, by omega, by omega, fun H5 r s5 nr hr5 => ?_⟩
          obtain ⟨bs0, eb0, _⟩ := id pt
          have rt : r ≠ tl := (ne_of_none eb0 nr).symm
          obtain ⟨bs, eb, tb⟩ := pt.same s5
          have lb := tb.length
          refine ⟨_, rfl, .inl ⟨rfl, _, SqL.of eb⟩, _, rfl, _, rfl, (by show 2 ≤ sizeLine; decide), fun t2 nt2 => ?_⟩
          have s6 := same_new (o := .tup [.int (a : Int), .int (b : Int)]) nt2
          have t2t : t2 ≠ tl := (ne_of_none eb nt2).symm
          refine ⟨tl, _, _, rfl, rfl, s6 _ _ eb, ?_, ?_⟩
          · rw [List.length_map]
            exact small1000 (by omega)
          have s7 : Same H1 (upd (upd H5 t2 (.tup [.int (a : Int), .int (b : Int)])) tl (.lst (bs.map V.ref ++ [.ref t2]))) := fun c o e => by
            rw [upd_ne (ne_of_none e ntl)]
            exact s6 _ _ (s5 _ _ (s4 _ _ e))
          have hp : PairsAt (upd (upd H5 t2 (.tup [.int (a : Int), .int (b : Int)])) tl (.lst (bs.map V.ref ++ [.ref t2]))) tl (ts ++ [((a : Int), (b : Int))]) := by
            refine ⟨bs ++ [t2], by rw [upd_same]; simp, ?_⟩
            exact TupsAt.lst (TupsAt.append (tb.new nt2) (.cons upd_same .nil)) (s6 _ _ eb)
          have hn : OrdAt (upd (upd H5 t2 (.tup [.int (a : Int), .int (b : Int)])) tl (.lst (bs.map V.ref ++ [.ref t2]))) r (turnedOf os' a b) := by
            unfold OrdAt
            rw [upd_ne rt]
            exact s6 _ _ hr5
          generalize upd (upd H5 t2 (.tup [.int (a : Int), .int (b : Int)])) tl (.lst (bs.map V.ref ++ [.ref t2])) = H6 at s7 hp hn
          have io2 := io'.perm (turned_perm os' a b)
          refine ⟨_, rfl, _, rfl, y, r, n, ps, turnedOf os' a b, rfl, hy.same (s1.trans s7), hn, io2, n30, fun H7 v s8 hv7 => ?_⟩
          refine ⟨m, Nat.lt_succ_self m, r, turnedOf os' a b, ts ++ [((a : Int), (b : Int))], v, _, _, rfl, s7.trans s8, hp.same s8, hn.same s8, io2, s4.free nr, rt, hv7, ?_, by omega, by rw [List.length_append, List.length_singleton]; omega⟩
          rw [er, List.append_assoc]
          rfl
end
end DR

set_option Elab.async false
set_option linter.all false
set_option maxRecDepth 100000
set_option maxHeartbeats 4000000
namespace DR
open PySem PySem.Spec PyProof.Rows L2
section
variable {X : Cx}
/-- xs[i], 0 ≤ i, as the read of xs[i] op= e -/
def rGetL (K : PySem.W.Frag) : V → V → Hp → VK → Prop := fun o i H Q => ∃ (p : Addr) (xs : List V) (k : Nat) (v : V), o = .ref p ∧ i = .int (k : Int) ∧ SqL K H p xs ∧ xs[k]? = some v ∧ Q v H
theorem pget_list : PGet X (rGetL X.K) := by
  intro pins s σ H o i ov iv Q I ro ri h
  obtain ⟨p, xs, k, z, rfl, rfl, hq, he, q⟩ := h
  cases ro
  obtain ⟨t, rfl⟩ := ri
  obtain ⟨its, r, pl, hz⟩ := I.list hq
  obtain ⟨w, ew, rw'⟩ := r.get he
  have hl := r.length
  have hn := line63
  have hk : k < its.length := by
    obtain ⟨h1, _⟩ := List.getElem?_eq_some_iff.mp ew
    exact h1
  exact wpAny_getItem_list pl.isList (by omega) (by omega) (by simpa using ew) ⟨z, H, I, rw', q⟩
/-- l.remove(x), x among them: the first that is equal goes -/
def rRemD (K : PySem.W.Frag) : V → List V → Hp → VK → Prop := fun x xs H Q => ∃ (a : Addr) (y : V) (vs : List V) (d : PyData) (ds : List PyData) (j : Nat) (z : PyData), x = V.ref a ∧ xs = [y] ∧ H a = some (.lst vs) ∧ DpAll K H vs ds ∧ Dp K H y d ∧
  SeqAt.shaped (.list ds) = true ∧ SeqAt.shaped d = true ∧ ds[j]? = some z ∧ PyData.eqv z d = true ∧ (∀ (m : Nat) (z' : PyData), m < j → ds[m]? = some z' → PyData.eqv z' d = false) ∧ Q .non (upd H a (.lst (vs.eraseIdx j)))
theorem mt_removeD (hu : X.A.units + 65 < cLine) : MtM X "list.remove" (rRemD X.K) := by
  intro pins s σ H x xs v us Q I rx rxs h
  obtain ⟨a, y, vs, d, ds, j, z, rfl, rfl, hH, ha, hy, sl, sd, hz, hzj, hno, q⟩ := h
  cases rx
  cases rxs with
  | cons ry rt =>
    rename_i uy ut
    cases rt
    obtain ⟨bs, r1⟩ := Dp.reads I d y uy hy ry
    have hxs : PyData.canLayAll0 ds = true := SeqAt.canLay_of_shaped sl
    have hroom : X.A.units + 1 + min (PyData.depthAll ds) d.depth < cLine := room_in_shaped sd hu
    obtain ⟨hsz, its, n, rv, hlen, ho⟩ := I.lstM hH
    obtain ⟨as, h4⟩ := Dp.readsAll I ds _ its ha rv
    have hn : its.length = ds.length := SeqAt.ReadsAll.length ds its as h4
    have hmap : its.map (SeqAt.readOf s.heap) = ds := SeqAt.readsAll_map ds its as hxs h4
    obtain ⟨hjd, _⟩ := List.getElem?_eq_some_iff.mp hz
    have hjl : j < its.length := by omega
    have hj : j < its.toArray.size := by simpa using hjl
    have at_ : ∀ (m : Nat) (hm : m < its.toArray.size) (z' : PyData), ds[m]? = some z' → SeqAt.readOf s.heap its.toArray[m] = z' := by
      intro m hm z' hz'
      have hml : m < its.length := by simpa using hm
      rw [← hmap, List.getElem?_map, List.getElem?_eq_getElem hml] at hz'
      have e1 : SeqAt.readOf s.heap its[m] = z' := Option.some.inj (show some (SeqAt.readOf s.heap its[m]) = some z' from hz')
      simpa using e1
    refine call_meets PySem.F.slot_list_remove ⟨_, ho, rfl⟩ PySem.F.entry_list_remove (PySem.F.args_list_remove_2 _ _)
      (SeqAt.list_removeAt a its.toArray n none #[] uy (fun u => PyData.eqv (SeqAt.readOf s.heap u) d) j hj ?_ ?_ (by rw [List.size_toArray]; omega)) ⟨ho, SeqAt.items_eqAt (vs := its.toArray) (show ReadsAll s.heap its.toArray.toList ds as from h4) r1 hxs (SeqAt.canLay_of_shaped sd) hroom, ?_⟩
    · show PyData.eqv (SeqAt.readOf s.heap its.toArray[j]) d = true
      rw [at_ j hj z hz]
      exact hzj
    · intro m hm hmj
      have hmd : m < ds.length := by omega
      have hz' : ds[m]? = some ds[m] := List.getElem?_eq_getElem hmd
      show PyData.eqv (SeqAt.readOf s.heap its.toArray[m]) d = false
      rw [at_ m hm _ hz']
      exact hno m _ hmj hz'
    · refine ⟨.non, _, I.lset (its' := its.eraseIdx j) (t' := s.toks) hH ho ?_ (rv.eraseIdx j) ?_, rfl, q⟩
      · show its.toArray.eraseIdxIfInBounds j = (its.eraseIdx j).toArray
        rw [List.eraseIdxIfInBounds_toArray]
      · have := List.length_eraseIdx_le vs j
        omega
end
/-- a list of pairs, one of them taken out -/
theorem TupsAt.eraseIdx {H : Hp} : ∀ {as : List Addr} {ps : List (Int × Int)} (j : Nat), TupsAt H as ps → TupsAt H (as.eraseIdx j) (ps.eraseIdx j)
  | _, _, 0, .nil => .nil
  | _, _, _ + 1, .nil => .nil
  | _, _, 0, .cons _ t => t
  | _, _, j + 1, .cons r t => .cons r (TupsAt.eraseIdx j t)
theorem map_eraseIdxR (f : Addr → V) : ∀ (ns : List Addr) (j : Nat), (ns.map f).eraseIdx j = (ns.eraseIdx j).map f
  | [], _ => rfl
  | _ :: _, 0 => rfl
  | n :: r, j + 1 => by
    show f n :: (r.map f).eraseIdx j = f n :: (r.eraseIdx j).map f
    rw [map_eraseIdxR f r j]
theorem first_pair : ∀ {ps : List (Int × Int)} {p : Int × Int}, p ∈ ps → ∃ j, ps[j]? = some p ∧ (∀ m, m < j → ps[m]? ≠ some p) ∧ ps.eraseIdx j = ps.erase p
  | [], p, h => absurd h (by simp)
  | a :: r, p, h => by
    by_cases e : a = p
    · refine ⟨0, by rw [e] <;> rfl, fun i hi => absurd hi (Nat.not_lt_zero _), ?_⟩
      rw [e, List.erase_cons_head] <;> rfl
    · have hr : p ∈ r := by
        rcases List.mem_cons.mp h with z | z
        · exact absurd z.symm e
        · exact z
      obtain ⟨j, h2, h3, h4⟩ := first_pair hr
      refine ⟨j + 1, h2, fun i hi => ?_, ?_⟩
      · cases i with
        | zero =>
          intro z
          exact e (Option.some.inj z)
        | succ i => exact h3 i (Nat.lt_of_succ_lt_succ hi)
      · rw [List.erase_cons_tail (by rw [beq_iff_eq]; exact e), ← h4] <;> rfl
/-- l.remove(p) of a list of pairs -/
theorem rem_pairs {K : PySem.W.Frag} {H : Hp} {l t : Addr} {ps : List (Int × Int)} {p : Int × Int} {Q : VK} (hl : PairsAt H l ps) (ht : H t = some (.tup [.int p.1, .int p.2])) (hp : p ∈ ps)
    (q : ∀ H', Kp l H H' → PairsAt H' l (ps.erase p) → Q .non H') : rRemD K (.ref l) [.ref t] H Q := by
  obtain ⟨as, el, ta⟩ := hl
  obtain ⟨j, h1, h2, h3⟩ := first_pair hp
  refine ⟨l, _, as.map V.ref, pd p, ps.map pd, j, pd p, rfl, rfl, el, pds_dp ta, pd_dp ht, pds_shaped ps, pd_shaped p, by rw [List.getElem?_map, h1] <;> rfl, by rw [pd_eqv]; simp, fun m z' hm hz => ?_, q _ (Kp.put _ _ _) ⟨as.eraseIdx j, ?_, ?_⟩⟩
  · rw [List.getElem?_map] at hz
    cases e : ps[m]? with
    | none =>
      rw [e] at hz
      cases hz
    | some q =>
      rw [e] at hz
      have hz : pd q = z' := Option.some.inj hz
      rw [← hz, pd_eqv]
      exact decide_eq_false fun z => h2 m hm (by rw [e, z])
  · rw [upd_same, map_eraseIdxR]
  · rw [← h3]
    exact TupsAt.lst (ta.eraseIdx j) el
end DR

set_option Elab.async false
set_option linter.all false
set_option maxRecDepth 100000
set_option maxHeartbeats 4000000
namespace DR
open PySem PySem.Spec PyProof.Rows L2
/-- a pair, or None -/
def PairV (H : Hp) (v : V) : Option (Int × Int) → Prop
  | none => v = .non
  | some p => ∃ t, v = .ref t ∧ H t = some (.tup [.int p.1, .int p.2])
theorem PairV.same {H H' : Hp} {v : V} {o : Option (Int × Int)} (h : PairV H v o) (s : Same H H') : PairV H' v o := by
  cases o with
  | none => exact h
  | some p =>
    obtain ⟨t, e, h⟩ := h
    exact ⟨t, e, s _ _ h⟩
def enough (n : Nat) (g : Int → Int) (p : Int × Int) : Bool := decide (g p.1 + g p.2 ≥ n)
/-- a list of a number for each place -/
def degs (n : Nat) (g : Int → Int) : List V := (List.range n).map fun i : Nat => V.int (g i)
theorem degs_len (n : Nat) (g : Int → Int) : (degs n g).length = n := by simp [degs]
theorem degs_get {n : Nat} {g : Int → Int} {k : Nat} (h : k < n) : (degs n g)[k]? = some (.int (g k)) := by simp [degs, h]
theorem degs_at {n : Nat} {g : Int → Int} {i : Int} (h0 : 0 ≤ i) (h1 : i < n) : atI (degs n g) i = some (.int (g i)) := by
  obtain ⟨k, rfl⟩ : ∃ k : Nat, i = (k : Int) := ⟨i.toNat, by omega⟩
  exact atI_nat (degs_get (by omega))
theorem degs_set (n : Nat) (g : Int → Int) {k : Nat} (h : k < n) (v : Int) : (degs n g).set k (.int v) = degs n fun x => if x = (k : Int) then v else g x := by
  refine List.ext_getElem? fun i => ?_
  rw [List.getElem?_set]
  by_cases hi : i < n
  · rw [degs_get (g := g) hi, degs_get (g := fun x => if x = (k : Int) then v else g x) hi]
    by_cases e : k = i
    · subst e
      rw [if_pos rfl, if_pos (by rw [degs_len]; exact h), if_pos rfl]
    · rw [if_neg e, if_neg (by omega)]
  · by_cases e : k = i
    · omega
    · rw [if_neg e, List.getElem?_eq_none (by rw [degs_len]; omega), List.getElem?_eq_none (by rw [degs_len]; omega)]
theorem find_at {α : Type} {f : α → Bool} : ∀ {l : List α} {k : Nat} {a : α}, l[k]? = some a → (∀ c ∈ l.take k, f c = false) → f a = true → l.find? f = some a
  | [], k, a, h, _, _ => by simp at h
  | x :: l, 0, a, h, _, ha => by
    simp at h
    subst h
    simp [ha]
  | x :: l, k + 1, a, h, hb, ha => by
    have hx : f x = false := hb x (by simp)
    rw [List.find?_cons, hx]
    exact find_at (k := k) (by simpa using h) (fun c hc => hb c (by simp [hc])) ha
/-! ### the pairs that close a yard -/
def stepOf (n : Nat) (ks : List (Int × Int)) : Option (Int × Int) := (pairsOf n).find? fun p => !decide (p ∈ ks) && enough n (cnt ks) p
def addGo (n : Nat) : Nat → List (Int × Int) → List (Int × Int)
  | 0, _ => []
  | f + 1, ks => match stepOf n ks with
    | none => []
    | some p => p :: addGo n f (ks ++ [p])
def leftOf (n : Nat) (ks : List (Int × Int)) : List (Int × Int) := (pairsOf n).filter fun p => !decide (p ∈ ks)
def closedOf (n : Nat) (ps : List (Int × Int)) : List (Int × Int) := addGo n (n * n) ps
theorem addGo_none {n m : Nat} {ks : List (Int × Int)} (h : stepOf n ks = none) : addGo n m ks = [] := by
  cases m with
  | zero => rfl
  | succ m =>
    unfold addGo
    rw [h]
theorem addGo_some {n m : Nat} {ks : List (Int × Int)} {p : Int × Int} (h : stepOf n ks = some p) : addGo n (m + 1) ks = p :: addGo n m (ks ++ [p]) := by
  rw [addGo, h]
theorem step_mem {n : Nat} {ks : List (Int × Int)} {p : Int × Int} (h : stepOf n ks = some p) : p ∈ pairsOf n ∧ p ∉ ks ∧ enough n (cnt ks) p = true := by
  have h1 := List.find?_some h
  have h2 := List.mem_of_find?_eq_some h
  simp only [Bool.and_eq_true, Bool.not_eq_true', decide_eq_false_iff_not] at h1
  exact ⟨h2, h1.1, h1.2⟩
theorem left_find (n : Nat) (ks : List (Int × Int)) : (leftOf n ks).find? (enough n (cnt ks)) = stepOf n ks := by
  unfold leftOf stepOf
  rw [List.find?_filter]
  exact congrArg (fun f => List.find? f (pairsOf n)) (funext fun p => by simp)
theorem left_len (n : Nat) (ks : List (Int × Int)) : (leftOf n ks).length ≤ n * n := Nat.le_trans (List.length_filter_le _ _) (pairsOf_len n)
theorem left_nodup (n : Nat) (ks : List (Int × Int)) : (leftOf n ks).Nodup := (nodup_pairsOf n).filter _
theorem left_erase (n : Nat) (ks : List (Int × Int)) (p : Int × Int) : (leftOf n ks).erase p = leftOf n (ks ++ [p]) := by
  rw [(left_nodup n ks).erase_eq_filter]
  unfold leftOf
  rw [List.filter_filter]
  refine List.filter_congr fun q _ => ?_
  by_cases e : q = p
  · subst e
    simp
  · simp [e]
theorem untied_left {n : Nat} {ps : List (Int × Int)} (ti : Ties n ps) : untiedOf n ps = leftOf n ps := by
  unfold untiedOf leftOf
  refine List.filter_congr fun p hp => ?_
  have r := (Ties.all n).rng p hp
  have : (p.2, p.1) ∉ ps := fun z => by
    have := ti.rng _ z
    simp at this
    omega
  unfold apart tied
  rw [decide_eq_false this, Bool.or_false]
theorem Ties.snoc {n : Nat} {ks : List (Int × Int)} {p : Int × Int} (h : Ties n ks) (hp : p ∈ pairsOf n) (hn : p ∉ ks) : Ties n (ks ++ [p]) := by
  refine ⟨?_, fun q hq => ?_⟩
  · rw [List.nodup_append]
    refine ⟨h.nd, by simp, fun a ha b hb e => ?_⟩
    rw [List.mem_singleton.mp hb] at e
    exact hn (e ▸ ha)
  · rcases List.mem_append.mp hq with z | z
    · exact h.rng q z
    · rw [List.mem_singleton.mp z]
      exact mem_pairsOf.mp hp
section
variable {P : Program} {w : World} {K : PySem.W.Frag} {mg : Str → Option Value} {base : Heap} {C : Addr}
def spFwe : Sp := fun vs H Q _ => ∃ (l dg : Addr) (n : Nat) (g : Int → Int) (qs : List (Int × Int)), vs = [.ref l, .ref dg] ∧ PairsAt H l qs ∧ H dg = some (.lst (degs n g)) ∧ (∀ p ∈ qs, p ∈ pairsOf n) ∧ ∀ H' v, Same H H' → PairV H' v (qs.find? (enough n g)) → Q v H'
abbrev nFwe : List Str := ["pairs", "degrees", "one", "other"]
theorem scFwe : FnScope nFwe ["pairs", "degrees"] (defScope s_first_with_enough) := ⟨rfl, rfl, rfl, by decide +kernel, rfl, by decide +kernel, by decide +kernel⟩
theorem has_fwe (D : IsDef K mg "first_with_enough" s_first_with_enough) (B : Blt mg) : Has P w K mg base 1 "first_with_enough" ["pairs", "degrees"] spFwe := by
  refine has_of D scFwe (fun _ _ _ _ _ _ us hl => match us, hl with | [_, _], _ => rfl) (fun vs H Q E h => ?_) (fun f cdv A outer s H vs Q E hr h => ?_)
  · obtain ⟨l, dg, n, g, qs, rfl, _⟩ := h
    rfl
  · obtain ⟨l, dg, n, g, qs, rfl, ⟨as, el, ta⟩, ed, hq, q⟩ := h
    refine ⟨_, pss_cons (ps_for PassesOwn.never rfl (pi_list (pv 0)) (pg_tup rfl (pgs_cons (pg_name (i := 2) scFwe.nd rfl (.inl rfl)) (pgs_cons (pg_name (i := 3) scFwe.nd rfl (.inl rfl)) pgs_nil)))
        (pss_one (ps_if (pt_cmpR op_ge (pe_op op_add (pe_ix (r := rIxL K) ix_list (pv 1) (pv 2) (fun _ _ => rfl)) (pe_ix (r := rIxL K) ix_list (pv 1) (pv 3) (fun _ _ => rfl))) (pe_callB call_len_seq (by rfl) B.len PySem.boot_len (pa_cons (pv 1) pa_nil)) (nomark _))
          (pss_one (ps_ret (pe_tup (pa_cons (pv 2) (pa_cons (pv 3) pa_nil))))) pss_nil)))
      (pss_one (ps_ret pe_non)), ?_⟩
    refine ⟨_, rfl, l, rfl, ⟨_, SqL.of el⟩, for_list (K := K) (a := l) (xs := as.map V.ref) (fun k σ H2 => (∃ x2 x3 : Option V, σ = [some (.ref l), some (.ref dg), x2, x3]) ∧ H2 = H ∧ ∀ p ∈ qs.take k, enough n g p = false)
      ⟨⟨none, none, rfl⟩, rfl, fun a ha => by simp at ha⟩ (fun k σ H2 _ ⟨_, e, _⟩ => by rw [e]; exact SqL.of el) ?_ ?_⟩
    · rintro k x σ H2 hx ⟨⟨x2, x3, rfl⟩, rfl, pre⟩
      obtain ⟨a, rfl, ha⟩ := refs_at' hx
      obtain ⟨p, hp, ea⟩ := ta.at_ ha
      have bd := (Ties.all n).bound (hq p (List.mem_of_getElem? hp))
      refine ⟨a, _, rfl, SqT.of ea, rfl, _, _, rfl, _, _, rfl, rfl, ?_⟩
      refine ⟨_, rfl, _, rfl, dg, _, _, _, rfl, rfl, SqL.of ed, degs_at bd.1 bd.2.1, _, rfl, _, rfl, dg, _, _, _, rfl, rfl, SqL.of ed, degs_at bd.2.2.1 bd.2.2.2, _, _, rfl, rfl, _, rfl, dg, _, rfl, .inl (SqL.of ed), _, _, rfl, rfl, _, rfl, ?_⟩
      rw [degs_len]
      have e : decide (g p.1 + g p.2 ≥ (n : Int)) = enough n g p := rfl
      rw [e]
      cases hb : enough n g p with
      | false =>
        refine iteF ⟨⟨_, _, rfl⟩, rfl, fun c hc => ?_⟩
        rw [List.take_succ, hp] at hc
        rcases List.mem_append.mp hc with h | h
        · exact pre c h
        · rw [show c = p by simpa using h]
          exact hb
      | true =>
        refine iteT ⟨_, rfl, _, rfl, (by show 2 ≤ sizeLine; decide), fun t nt => ?_⟩
        refine q _ (.ref t) (same_new nt) ?_
        rw [find_at hp pre hb]
        exact ⟨t, rfl, upd_same⟩
    · rintro σ H2 ⟨⟨x2, x3, rfl⟩, rfl, pre⟩
      refine q H2 .non (Same.refl _) ?_
      rw [List.length_map, ta.length, List.take_length] at pre
      have e : qs.find? (enough n g) = none := by
        rw [List.find?_eq_none]
        intro p hp
        rw [pre p hp]
        exact Bool.false_ne_true
      rw [e]
      rfl
def spClosed (C : Addr) : Sp := fun vs H Q _ => ∃ (y : Addr) (n : Nat) (ps : List (Int × Int)), vs = [.ref y] ∧ YardAt C H y n ps ∧ Ties n ps ∧ n ≤ 30 ∧ ∀ H' l, Same H H' → H l = none → PairsAt H' l (closedOf n ps) → Q (.ref l) H'
abbrev nClosed : List Str := ["yard", "left", "place", "degrees", "pairs", "pair"]
theorem scClosed : FnScope nClosed ["yard"] (defScope s_closed) := ⟨rfl, rfl, rfl, by decide +kernel, rfl, by decide +kernel, by decide +kernel⟩
theorem has_closed (D : IsDef K mg "closed" s_closed) (B : Blt mg) (T : YTxt K mg C) (M : HasM P w K mg base C 1 "many" ["self"] (spMany C)) (UT : Has P w K mg base 2 "untied" ["yard"] (spUntied C)) (DG : HasM P w K mg base C 1 "degree" ["self", "place"] (spDeg C))
    (FW : Has P w K mg base 1 "first_with_enough" ["pairs", "degrees"] spFwe) : Has P w K mg base 3 "closed" ["yard"] (spClosed C) := by
  refine has_of D scClosed (fun _ _ _ _ _ _ us hl => match us, hl with | [_], _ => rfl) (fun vs H Q E h => ?_) (fun f cdv A outer s H vs Q E hr h => ?_)
  · obtain ⟨y, n, ps, rfl, _⟩ := h
    rfl
  · obtain ⟨y, n, ps, rfl, hy, ti, n30, q⟩ := h
    refine ⟨_, pss_cons (ps_set (i := 1) scClosed.nd rfl (.inl rfl) (pe_has UT hr (by decide) (by rfl) (pa_cons (pv 0) pa_nil)))
      (pss_cons (ps_setLc (i := 3) (own := [("place", 2)]) (g := gName 2) (tt := tYes) (by rfl) scClosed.nd rfl rfl (sw_true rfl rfl rfl (by decide +kernel)) (pi_range1 (by rfl) B.range (pa_cons (pe_hasM0 (pv 0) T.cl M hr (by decide)) pa_nil)) (blkOk_by (N := nClosed) (sc := defScope s_closed) (by decide +kernel))
          (fun _ _ _ _ _ => pg_name (i := 2) scClosed.nd rfl (.inl rfl)) (fun _ _ _ _ _ => pts_nil) (fun _ _ _ _ _ => pe_hasM (pv 0) T.cl DG hr (by decide) (pa_cons (pv 2) pa_nil)))
      (pss_cons (ps_set (i := 4) scClosed.nd rfl (.inl rfl) (pe_lst pa_nil))
      (pss_cons (ps_set (i := 5) scClosed.nd rfl (.inl rfl) (pe_has FW hr (by decide) (by rfl) (pa_cons (pv 1) (pa_cons (pv 3) pa_nil))))
      (pss_cons (ps_while PassesOwn.never (pt_cmp (pc_notN (pv 5)) rfl)
        (pss_cons (ps_expr (pe_bm PySem.F.plainAttrs_list PySem.F.slot_list_append PySem.F.type_list_append mt_append (pv 4) (pa_cons (pv 5) pa_nil)))
        (pss_cons (ps_expr (pe_bm PySem.F.plainAttrs_list PySem.F.slot_list_remove PySem.F.type_list_remove (mt_removeD (hu65 hr)) (pv 1) (pa_cons (pv 5) pa_nil)))
        (pss_cons (ps_for PassesOwn.never rfl (pi_tup (pv 5)) (pg_name (i := 2) scClosed.nd rfl (.inl rfl))
          (pss_one (ps_augS (pv 3) (pv 2) pget_list pe_int ip_add set_list)))
        (pss_one (ps_set (i := 5) scClosed.nd rfl (.inl rfl) (pe_has FW hr (by decide) (by rfl) (pa_cons (pv 1) (pa_cons (pv 3) pa_nil)))))))))
      (pss_one (ps_ret (pv 4))))))), ?_⟩
    refine ⟨_, rfl, y, n, ps, rfl, hy, n30, fun H1 l s1 nl pl => ?_⟩
    have hy1 := hy.same s1
    obtain ⟨dx, l', td, dg, h1, h2, h3, h4⟩ := id hy1
    refine ⟨_, rfl, y, dx, _, rfl, h1, look_no n l' td dg (by decide +kernel) (by decide +kernel) (by decide +kernel) (by decide +kernel), y, n, ps, rfl, hy1, (n : Int), rfl, by omega, by omega, fun D nD => ?_⟩
    rw [Int.toNat_natCast]
    refine lc_range (lo := 0) (n := n) (fun j H2 => Kp D H1 H2 ∧ H2 D = some (.lst (degs j (cnt ps)))) ⟨Kp.put _ _ _, upd_same⟩ ?_ ?_
    · rintro j H2 hj ⟨kp, eD⟩
      have s2 : Same H1 H2 := fun c o e => kp c o (ne_of_none e nD) e
      have hy2 := hy1.same s2
      obtain ⟨dx, l', td, dg, h1, h2, h3, h4⟩ := id hy2
      refine ⟨rfl, _, rfl, y, dx, _, rfl, h1, look_no n l' td dg (by decide +kernel) (by decide +kernel) (by decide +kernel) (by decide +kernel), _, rfl, y, n, ps, 0 + (j : Int), rfl, hy2, by omega, by omega, _, eD, ?_, fun c o nc e => ?_, ?_⟩
      · rw [degs_len]
        exact small1000 (by omega)
      · rw [upd_ne nc]
        exact kp c o nc e
      · rw [upd_same]
        unfold degs
        rw [List.range_succ, List.map_append, Int.zero_add]
        rfl
    rintro H2 ⟨kp, eD⟩
    have s2 : Same H1 H2 := fun c o e => kp c o (ne_of_none e nD) e
    refine ⟨by show 0 ≤ sizeLine; decide, fun pl' npl => ?_⟩
    have s3 := same_new (o := .lst []) npl
    obtain ⟨as, el, ta⟩ := id pl
    have Dl : l ≠ D := ne_of_none el nD
    have lp : l ≠ pl' := ne_of_none (s2 _ _ el) npl
    have Dp : D ≠ pl' := ne_of_none eD npl
    have nD0 : H D = none := s1.free nD
    have np0 : H pl' = none := s1.free (s2.free npl)
    have ep : upd H2 pl' (.lst []) pl' = some (.lst []) := upd_same
    have pl3 := (pl.same s2).same s3
    have eD3 := s3 _ _ eD
    have s03 : Same H (upd H2 pl' (.lst [])) := s1.trans (s2.trans s3)
    generalize upd H2 pl' (.lst []) = H3 at ep pl3 eD3 s03
    rw [untied_left ti] at pl3
    refine ⟨_, rfl, _, rfl, l, D, n, cnt ps, leftOf n ps, rfl, pl3, eD3, fun p hp => (List.mem_filter.mp hp).1, fun H4 v s4 hv => ?_⟩
    rw [left_find] at hv
    refine ⟨fun m σ H5 => ∃ (ks : List (Int × Int)) (v : V) (x2 : Option V), σ = [some (.ref y), some (.ref l), x2, some (.ref D), some (.ref pl'), some v] ∧ Same H H5 ∧ PairsAt H5 l (leftOf n (ps ++ ks)) ∧ H5 D = some (.lst (degs n (cnt (ps ++ ks)))) ∧ PairsAt H5 pl' ks ∧
        Ties n (ps ++ ks) ∧ PairV H5 v (stepOf n (ps ++ ks)) ∧ closedOf n ps = ks ++ addGo n m (ps ++ ks) ∧ (leftOf n (ps ++ ks)).length ≤ m,
      ⟨n * n, [], v, none, rfl, s03.trans s4, by rw [List.append_nil]; exact pl3.same s4, by rw [List.append_nil]; exact s4 _ _ eD3, ⟨[], s4 _ _ ep, .nil⟩, by rw [List.append_nil]; exact ti, by rw [List.append_nil]; exact hv, by rw [List.append_nil]; rfl, left_len n _⟩, ?_⟩
    rintro m σ H5 ⟨ks, v, x2, rfl, s5, p5, d5, k5, ti5, v5, c5, m5⟩
    refine ⟨_, rfl, _, rfl, ?_⟩
    cases hf : stepOf n (ps ++ ks) with
    | none =>
      rw [hf] at v5
      obtain rfl : v = .non := v5
      refine iteF ⟨_, rfl, ?_⟩
      rw [addGo_none hf, List.append_nil] at c5
      exact q H5 pl' s5 np0 (by rw [c5]; exact k5)
    | some p =>
      rw [hf] at v5
      obtain ⟨t, rfl, ht⟩ := v5
      obtain ⟨hp, hnp, hen⟩ := step_mem hf
      have hpl : p ∈ leftOf n (ps ++ ks) := List.mem_filter.mpr ⟨hp, by simp [hnp]⟩
      have bd := (Ties.all n).bound hp
      have lt := ((Ties.all n).rng p hp).2.1
      refine iteT ⟨_, fun σ' H' h => h, ?_⟩
      obtain ⟨bs, eb, tb⟩ := id k5
      have lb := tb.length
      have l900 := ti5.len900 n30
      rw [List.length_append] at l900
      refine ⟨_, rfl, .inl ⟨rfl, _, SqL.of eb⟩, _, rfl, pl', _, _, rfl, rfl, eb, ?_, ?_⟩
      · rw [List.length_map]
        exact small1000 (by omega)
      have k6 : PairsAt (upd H5 pl' (.lst (bs.map V.ref ++ [.ref t]))) pl' (ks ++ [p]) := by
        refine ⟨bs ++ [t], by rw [upd_same]; simp, ?_⟩
        exact TupsAt.lst (TupsAt.append tb (.cons ht .nil)) eb
      have s6 : Same H (upd H5 pl' (.lst (bs.map V.ref ++ [.ref t]))) := fun c o e => by
        rw [upd_ne (ne_of_none e np0)]
        exact s5 _ _ e
      have p6 : PairsAt (upd H5 pl' (.lst (bs.map V.ref ++ [.ref t]))) l (leftOf n (ps ++ ks)) := p5.kp (Kp.put _ _ _) eb lp
      have d6 : upd H5 pl' (.lst (bs.map V.ref ++ [.ref t])) D = some (.lst (degs n (cnt (ps ++ ks)))) := (upd_ne Dp).trans d5
      have t6 : upd H5 pl' (.lst (bs.map V.ref ++ [.ref t])) t = some (.tup [.int p.1, .int p.2]) := (upd_ne (ne_of ht eb (by intro z; cases z))).trans ht
      generalize upd H5 pl' (.lst (bs.map V.ref ++ [.ref t])) = H6 at k6 s6 p6 d6 t6
      obtain ⟨cs, ec, tc⟩ := id p6
      obtain ⟨bs', eb', _⟩ := id k6
      refine ⟨_, rfl, .inl ⟨rfl, _, SqL.of ec⟩, _, rfl, ?_⟩
      unfold tNil
      refine rem_pairs (K := K) p6 t6 hpl fun H7 kp7 p7 => ?_
      have k7 : PairsAt H7 pl' (ks ++ [p]) := k6.kp kp7 ec (Ne.symm lp)
      have s7 : Same H H7 := fun c o e => kp7 c o (ne_of_none e nl) (s6 _ _ e)
      have d7 := kp7 _ _ (Ne.symm Dl) d6
      have t7 := kp7 _ _ (ne_of t6 ec (by intro z; cases z)) t6
      rw [left_erase] at p7
      obtain ⟨cs7, ec7, _⟩ := id p7
      obtain ⟨bs7, eb7, _⟩ := id k7
      -- the degrees
      obtain ⟨g1, g1e⟩ : ∃ g1 : Int → Int, g1 = fun x => if x = p.1 then cnt (ps ++ ks) p.1 + 1 else cnt (ps ++ ks) x := ⟨_, rfl⟩
      obtain ⟨g2, g2e⟩ : ∃ g2 : Int → Int, g2 = fun x => if x = p.2 then g1 p.2 + 1 else g1 x := ⟨_, rfl⟩
      refine ⟨_, rfl, t, rfl, ⟨_, SqT.of t7⟩, for_tup (K := K) (a := t) (xs := [.int p.1, .int p.2]) (fun i σ H8 => (∃ x2 : Option V, σ = [some (.ref y), some (.ref l), x2, some (.ref D), some (.ref pl'), some (.ref t)]) ∧ Kp D H7 H8 ∧ H8 D = some (.lst (degs n (match i with | 0 => cnt (ps ++ ks) | 1 => g1 | _ => g2))))
        ⟨⟨_, rfl⟩, Kp.refl _ _, d7⟩ (fun i σ H8 _ ⟨_, kp, _⟩ => SqT.of (kp _ _ (ne_of t7 d7 (by intro z; cases z)) t7)) ?_ ?_⟩
      · rintro i x σ H8 hx ⟨⟨x2', rfl⟩, kp, e8⟩
        match i, hx with
        | 0, hx =>
          injection hx with hx
          subst hx
          obtain ⟨k, hk0⟩ : ∃ k : Nat, p.1 = (k : Int) := ⟨p.1.toNat, by omega⟩
          have hk : k < n := by omega
          rw [hk0]
          refine ⟨_, rfl, _, rfl, D, _, k, _, rfl, rfl, SqL.of e8, degs_get hk, _, _, rfl, rfl, D, _, _, k, rfl, rfl, e8, ?_, ?_⟩
          · rw [degs_len]
            simp [ixN]
            omega
          rw [degs_set n _ hk]
          refine ⟨⟨_, rfl⟩, kp.trans (Kp.put _ _ _), ?_⟩
          rw [upd_same, g1e]
          rw [hk0]
          rfl
        | 1, hx =>
          injection hx with hx
          subst hx
          obtain ⟨k, hk0⟩ : ∃ k : Nat, p.2 = (k : Int) := ⟨p.2.toNat, by omega⟩
          have hk : k < n := by omega
          rw [hk0]
          refine ⟨_, rfl, _, rfl, D, _, k, _, rfl, rfl, SqL.of e8, degs_get hk, _, _, rfl, rfl, D, _, _, k, rfl, rfl, e8, ?_, ?_⟩
          · rw [degs_len]
            simp [ixN]
            omega
          rw [degs_set n _ hk]
          refine ⟨⟨_, rfl⟩, kp.trans (Kp.put _ _ _), ?_⟩
          rw [upd_same, g2e]
          rw [hk0]
          rfl
        | i + 2, hx => cases hx
      · rintro σ H8 ⟨⟨x2', rfl⟩, kp8, e8⟩
        have e8 : H8 D = some (.lst (degs n g2)) := e8
        have eg : g2 = cnt (ps ++ (ks ++ [p])) := by
          funext x
          rw [g2e, g1e, ← List.append_assoc, cnt_snoc]
          by_cases e1 : x = p.1
          · have e2 : x ≠ p.2 := by omega
            subst e1
            simp [e2, Ne.symm e2]
          · by_cases e2 : x = p.2
            · subst e2
              simp [e1, Ne.symm e1]
            · simp [e1, e2, Ne.symm e1, Ne.symm e2]
        rw [eg] at e8
        rw [List.append_assoc] at p7
        have p8 : PairsAt H8 l (leftOf n (ps ++ (ks ++ [p]))) := p7.kp kp8 d7 Dl
        have k8 : PairsAt H8 pl' (ks ++ [p]) := k7.kp kp8 d7 (Ne.symm Dp)
        have s8 : Same H H8 := fun c o e => kp8 c o (ne_of_none e nD0) (s7 _ _ e)
        have ti8 : Ties n (ps ++ (ks ++ [p])) := by
          rw [← List.append_assoc]
          exact ti5.snoc hp hnp
        refine ⟨_, rfl, _, rfl, l, D, n, _, _, rfl, p8, e8, fun p hp => (List.mem_filter.mp hp).1, fun H9 v9 s9 hv9 => ?_⟩
        rw [left_find] at hv9
        have hll : (leftOf n (ps ++ (ks ++ [p]))).length + 1 = (leftOf n (ps ++ ks)).length := by
          rw [← List.append_assoc, ← left_erase, List.length_erase_of_mem hpl]
          have := List.length_pos_of_mem hpl
          omega
        cases m with
        | zero => omega
        | succ m =>
          refine ⟨m, Nat.lt_succ_self m, ks ++ [p], v9, _, rfl, s8.trans s9, p8.same s9, s9 _ _ e8, k8.same s9, ti8, hv9, ?_, by omega⟩
          rw [c5, addGo_some hf, List.append_assoc, List.append_assoc]
          rfl
end
end DR

set_option Elab.async false
set_option linter.all false
set_option maxRecDepth 100000
set_option maxHeartbeats 4000000
namespace DR
open PySem PySem.Spec PyProof.Rows L2
/-! ### closing, whatever is taken -/
theorem Ties.closed_ti {n : Nat} {ps : List (Int × Int)} (ti : Ties n ps) : ∀ (m : Nat) (ks : List (Int × Int)), Ties n ks → Ties n (ks ++ addGo n m ks)
  | 0, ks, h => by
    show Ties n (ks ++ [])
    rw [List.append_nil]
    exact h
  | m + 1, ks, h => by
    cases hs : stepOf n ks with
    | none =>
      rw [addGo_none hs, List.append_nil]
      exact h
    | some p =>
      obtain ⟨h1, h2, _⟩ := step_mem hs
      rw [addGo_some hs]
      have := Ties.closed_ti ti m (ks ++ [p]) (h.snoc h1 h2)
      rw [List.append_assoc] at this
      exact this
theorem Ties.closed {n : Nat} {ps : List (Int × Int)} (ti : Ties n ps) : Ties n (ps ++ closedOf n ps) := ti.closed_ti _ _ ti
theorem Ties.closed_len {n : Nat} {ps : List (Int × Int)} (ti : Ties n ps) (n30 : n ≤ 30) : (closedOf n ps).length ≤ 900 := by
  have := ti.closed.len900 n30
  rw [List.length_append] at this
  omega
theorem cnt_cons (p : Int × Int) (ks : List (Int × Int)) (x : Int) : cnt (p :: ks) x = ((if p.1 = x then 1 else 0) + (if p.2 = x then 1 else 0)) + cnt ks x := by simp [cnt]
theorem cnt_nonneg (ks : List (Int × Int)) (x : Int) : 0 ≤ cnt ks x := by
  induction ks with
  | nil => simp [cnt]
  | cons p r ih =>
    rw [cnt_cons]
    by_cases c1 : p.1 = x
    · by_cases c2 : p.2 = x
      · simp [c1, c2]
        omega
      · simp [c1, c2]
        omega
    · by_cases c2 : p.2 = x
      · simp [c1, c2]
        omega
      · simp [c1, c2]
        omega
theorem cnt_erase : ∀ {S : List (Int × Int)} {p : Int × Int} (x : Int), p ∈ S → cnt S x = ((if p.1 = x then 1 else 0) + (if p.2 = x then 1 else 0)) + cnt (S.erase p) x
  | [], p, x, h => absurd h (by simp)
  | q :: S, p, x, h => by
    by_cases e : q = p
    · subst e
      rw [List.erase_cons_head, cnt_cons]
    · have hp : p ∈ S := by
        rcases List.mem_cons.mp h with z | z
        · exact absurd z.symm e
        · exact z
      rw [List.erase_cons_tail (by rw [beq_iff_eq]; exact e), cnt_cons, cnt_cons, cnt_erase x hp]
      omega
theorem cnt_mono : ∀ {ks S : List (Int × Int)} (x : Int), ks.Nodup → (∀ p ∈ ks, p ∈ S) → cnt ks x ≤ cnt S x
  | [], S, x, _, _ => cnt_nonneg S x
  | p :: ks, S, x, hn, hs => by
    obtain ⟨h1, h2⟩ := List.nodup_cons.mp hn
    have hp : p ∈ S := hs p List.mem_cons_self
    have ih := cnt_mono (S := S.erase p) x h2 fun q hq => (List.mem_erase_of_ne (fun (e : q = p) => h1 (e ▸ hq))).2 (hs q (List.mem_cons_of_mem _ hq))
    rw [cnt_cons, cnt_erase x hp]
    omega
theorem enough_sub {n : Nat} {ks S : List (Int × Int)} (ti : Ties n ks) (hS : stepOf n S = none) (hs : ∀ p ∈ ks, p ∈ S) {p : Int × Int} (hp : p ∈ pairsOf n) (he : enough n (cnt ks) p = true) : p ∈ S := by
  unfold stepOf at hS
  rw [List.find?_eq_none] at hS
  have h := hS p hp
  unfold enough at h he
  have h1 := cnt_mono p.1 ti.nd hs
  have h2 := cnt_mono p.2 ti.nd hs
  have he := of_decide_eq_true he
  by_cases m : p ∈ S
  · exact m
  · exfalso
    refine h ?_
    rw [decide_eq_false m, decide_eq_true (by omega)]
    rfl
theorem addGo_sub {n : Nat} {S : List (Int × Int)} (hS : stepOf n S = none) : ∀ (m : Nat) (ks : List (Int × Int)), Ties n ks → (∀ p ∈ ks, p ∈ S) → ∀ p ∈ addGo n m ks, p ∈ S
  | 0, ks, _, _, p, h => by cases h
  | m + 1, ks, ti, hs, p, h => by
    cases hf : stepOf n ks with
    | none =>
      rw [addGo_none hf] at h
      cases h
    | some q =>
      obtain ⟨h1, h2, h3⟩ := step_mem hf
      have hq := enough_sub ti hS hs h1 h3
      rw [addGo_some hf] at h
      rcases List.mem_cons.mp h with e | e
      · rw [e]
        exact hq
      · refine addGo_sub hS m (ks ++ [q]) (ti.snoc h1 h2) (fun r hr => ?_) p e
        rcases List.mem_append.mp hr with z | z
        · exact hs r z
        · rw [List.mem_singleton.mp z]
          exact hq
theorem addGo_done {n : Nat} : ∀ (m : Nat) (ks : List (Int × Int)), (leftOf n ks).length ≤ m → stepOf n (ks ++ addGo n m ks) = none
  | m, ks, hm => by
    cases hf : stepOf n ks with
    | none => rw [addGo_none hf, List.append_nil, hf]
    | some p =>
      obtain ⟨h1, h2, h3⟩ := step_mem hf
      have hpl : p ∈ leftOf n ks := List.mem_filter.mpr ⟨h1, by simp [h2]⟩
      have hll : (leftOf n (ks ++ [p])).length + 1 = (leftOf n ks).length := by
        rw [← left_erase, List.length_erase_of_mem hpl]
        have := List.length_pos_of_mem hpl
        omega
      cases m with
      | zero => omega
      | succ m =>
        rw [addGo_some hf]
        have := addGo_done (n := n) m (ks ++ [p]) (by omega)
        rw [List.append_assoc] at this
        exact this
theorem closed_done (n : Nat) (ps : List (Int × Int)) : stepOf n (ps ++ closedOf n ps) = none := addGo_done _ _ (left_len n ps)
/-- of a closed yard closed tells none -/
theorem closed_closed (n : Nat) (ps : List (Int × Int)) : closedOf n (ps ++ closedOf n ps) = [] := addGo_none (closed_done n ps)
/-- any taking that comes to its end ties the same -/
theorem closed_any {n : Nat} {ps ks : List (Int × Int)} (ti : Ties n ps) (ti' : Ties n (ps ++ ks)) (hs : ∀ p ∈ ks, p ∈ ps ++ closedOf n ps) (he : stepOf n (ps ++ ks) = none) : (ps ++ closedOf n ps).Perm (ps ++ ks) := by
  refine (List.perm_ext_iff_of_nodup ti.closed.nd ti'.nd).mpr fun p => ⟨fun h => ?_, fun h => ?_⟩
  · rcases List.mem_append.mp h with z | z
    · exact List.mem_append_left _ z
    · exact addGo_sub he _ ps ti (fun q hq => List.mem_append_left _ hq) p z
  · rcases List.mem_append.mp h with z | z
    · exact List.mem_append_left _ z
    · exact hs p z
end DR

set_option Elab.async false
set_option linter.all false
set_option maxRecDepth 100000
set_option maxHeartbeats 4000000
/-! ### what the tables say of itertools.combinations -/
namespace DR.CF
open PySem PySem.F
theorem slot_iter : Slot "itertools.combinations" "__iter__" "itertools.combinations.__iter__" :=
  .of (owner := "itertools.combinations") (n := "__iter__") (by rw [typeLookup_type, builtinLookup_eq_fast]; kernel_rfl) (by decide +kernel) (by decide +kernel) (by decide +kernel)
    (by first | exact .inl (by decide +kernel) | exact .inr (by decide +kernel)) (by rw [isSubtype_type]; kernel_rfl)
theorem slot_next : Slot "itertools.combinations" "__next__" "itertools.combinations.__next__" :=
  .of (owner := "itertools.combinations") (n := "__next__") (by rw [typeLookup_type, builtinLookup_eq_fast]; kernel_rfl) (by decide +kernel) (by decide +kernel) (by decide +kernel)
    (by first | exact .inl (by decide +kernel) | exact .inr (by decide +kernel)) (by rw [isSubtype_type]; kernel_rfl)
theorem slot_init : Slot "itertools.combinations" "__init__" "object.__init__" :=
  .of (owner := "object") (n := "__init__") (by rw [typeLookup_type, builtinLookup_eq_fast]; kernel_rfl) (by decide +kernel) (by decide +kernel) (by decide +kernel)
    (by first | exact .inl (by decide +kernel) | exact .inr (by decide +kernel)) (by rw [isSubtype_type]; kernel_rfl)
theorem entry_next : entryFor table "itertools.combinations.__next__" = some Builtin.«itertools.combinations.__next__» := entryFor_of_tree (by kernel_rfl)
theorem entry_new : entryFor table "itertools.combinations.__new__" = some Builtin.«itertools.combinations.__new__» := entryFor_of_tree (by kernel_rfl)
theorem entry_iter : entryFor table "itertools.combinations.__iter__" = some Builtin.«dict_keyiterator.__iter__» :=
  entryFor_alias (id' := "dict_keyiterator.__iter__") (by kernel_rfl) (by first | rfl | decide +kernel | (unfold String.splitOn; simp +decide [String.splitOnAux])) (by decide +kernel) (by kernel_rfl)
theorem owner : Manifest.owners.lookup (String.ofList "itertools.combinations".toList.reverse.reverse) = some Manifest.sig_itertools_combinations := by kernel_rfl
theorem args_next_1 (a : Value) : argsOk "itertools.combinations.__next__" ⟨[a], []⟩ := by
  unfold argsOk; rw [signature?_of (id := "itertools.combinations.__next__") (n := ['_', '_', 't', 'x', 'e', 'n', '_', '_']) (o := "itertools.combinations".toList.reverse) (by kernel_rfl) owner]; kernel_rfl
theorem args_iter_1 (a : Value) : argsOk "itertools.combinations.__iter__" ⟨[a], []⟩ := by
  unfold argsOk; rw [signature?_of (id := "itertools.combinations.__iter__") (n := ['_', '_', 'r', 'e', 't', 'i', '_', '_']) (o := "itertools.combinations".toList.reverse) (by kernel_rfl) owner]; kernel_rfl
theorem mro : mroOf (.type "itertools.combinations") = pure [.type "itertools.combinations", .type "object"] := by rw [mroOf_type]; kernel_rfl
theorem lookup_new : typeLookup (.type "itertools.combinations") "__new__" = pure (some (.builtin "itertools.combinations.__new__")) := by rw [typeLookup_type, builtinLookup_eq_fast]; kernel_rfl
theorem called : TypeCalled "itertools.combinations" "itertools.combinations.__new__" "object.__init__" :=
  ⟨by decide +kernel, by decide +kernel, ⟨_, _, mro⟩, madeBy_type mro lookup_new (by decide +kernel), by decide +kernel, by rw [isSubtype_type]; kernel_rfl, slot_init⟩
theorem typeCall_2 (a b : Value) : checkTypeCall "itertools.combinations" ⟨[a, b], []⟩ = pure () := by kernel_rfl
theorem newCall_2 (a b : Value) : checkBuiltinCall "itertools.combinations.__new__" ⟨[.type "itertools.combinations", a, b], []⟩ = pure () := by kernel_rfl
theorem sub_self : isSubtype (.type "itertools.combinations") (.type "itertools.combinations") = pure true := by rw [isSubtype_type]; kernel_rfl
end DR.CF

set_option Elab.async false
set_option linter.all false
set_option maxRecDepth 100000
set_option maxHeartbeats 4000000
/-! ### combinations(range(n), k) -/
namespace DR
open PySem PySem.W PyProof.Rows L2
/-- the iterator's object: pool, state, the last handed out, the places -/
def CombRec (p : Addr) (st : Int) (last : Value) (is : List Nat) : Obj := { cls := .type "itertools.combinations", dict := none, data := .fields ([Value.ref p, rawInt st, last] ++ is.map fun (i : Nat) => rawInt i).toArray, slots := #[] }
theorem meets_comb_new (r : Addr) (n k : Nat) (hk : k ≤ 1000) (hn : n ≤ 1000) (t u v tk0 : Tok) :
    Meets (Builtin.«itertools.combinations.__new__» ⟨[.type "itertools.combinations", .ref r, .int k tk0], []⟩) (fun A R s => A.handled = none ∧ IsRange s.heap r 0 n 1 t u v ∧
      ∀ (h' : Heap) (tk : Nat) (acc : Array Value), (∀ b o, s.heap.get? b = some o → h'.get? b = some o) → ItemsOf (fun i v => ∃ t, v = .int (0 + i * 1) t) acc n →
      R (.ok (.ret (.ref (h'.push { cls := .type "tuple", data := .seq acc }).objs.size))) { s with heap := (h'.push { cls := .type "tuple", data := .seq acc }).push (CombRec h'.objs.size (if k > n then 2 else 0) .none (List.range k)), toks := tk }) :=
  .of_wp fun prog w A R s h => by
    obtain ⟨hp, g, d, tk, os⟩ := s
    obtain ⟨hh, hr, h⟩ := h
    have hsub : isSubtype (.type "itertools.combinations") (.type ("itertools." ++ "combinations")) = pure true := by
      rw [show ("itertools." ++ "combinations") = "itertools.combinations" from by decide]
      exact CF.sub_self
    have hT : (Shared.mk hp g d tk os).TypeIs (.ref r) "range" := ⟨_, hr, rfl⟩
    wp_walk
    have c1 : (decide ((k : Int) < -2 ^ 63) || decide ((k : Int) ≥ 2 ^ 63)) = false := by
      rw [decide_eq_false (by omega), decide_eq_false (by omega)]
      rfl
    rw [c1]
    refine wpAny_pure ?_
    show wpAny _ _ (collect (.ref r) >>= _) _ _ _
    refine wpAny_bind (collect_range (A := A.in1) (show A.in1.handled = none from hh) hr (small_one (a := 0) (b := n) (by omega) (by omega) (by omega) (by omega)) (show Builtin.Range.rangeSize 0 n 1 = n by rw [rangeSize_nat]; omega) (show n ≤ 2 ^ 24 by omega) fun h' tk' acc hk' hacc => ?_)
    have ln : acc.toList.length = n := by rw [Array.length_toList]; exact hacc.1
    have c2 : ¬ ((k : Int) < 0) := by omega
    rw [if_neg c2]
    have c3 : Builtin.Itertools.itTooMany (k : Int) = false := by
      unfold Builtin.Itertools.itTooMany
      exact decide_eq_false (by omega)
    simp only [c3, Bool.false_eq_true, if_false]
    refine wpAny_bind (wpAny_newObj_type ?_ (by show acc.toList.toArray.size ≤ sizeLine; simp only [Array.toArray_toList]; rw [hacc.1, sizeLine_eq]; omega))
    refine wpAny_pure ?_
    simp only [ln, Int.toNat_natCast]
    refine wpAny_bind ?_
    unfold Builtin.Itertools.itNewRecord
    have hd : typeHasDict (.type "itertools.combinations") = false := by kernel_rfl
    simp only [hd, Bool.not_false, if_true]
    refine wpAny_newObj_type ?_ ?_
    · refine wpAny_pure ⟨_, rfl, ?_⟩
      have e : acc.toList.toArray = acc := by simp
      rw [e]
      exact h h' tk' acc hk' hacc
    · show _ ≤ sizeLine + 2
      rw [sizeLine_eq]
      simp
      omega
/-- the places behind these -/
def nextC (n : Nat) (indices : List Nat) : Option (List Nat) :=
  let r := indices.length
  match (List.range r).reverse.find? fun i => indices.getD i 0 != i + n - r with
  | none => none
  | some i => some (indices.take i ++ (List.range (r - i)).map (indices.getD i 0 + 1 + ·))
section
variable {prog : Program} {w : World} {A : Around} {E : Value → Shared → Prop} {s : Shared} {c p : Addr} {n : Nat} {acc : Array Value} {is js : List Nat} {last : Value}
def PoolAt (h : Heap) (p : Addr) (acc : Array Value) : Prop := h.get? p = some { cls := .type "tuple", dict := none, data := .seq acc 0, slots := #[] }
/-- what a turn leaves -/
structure CTo (s : Shared) (c p : Addr) (acc : Array Value) (js : List Nat) (h' : Heap) : Prop where
  rcd : h'.get? c = some (CombRec p 1 (.ref s.heap.objs.size) js)
  new : h'.get? s.heap.objs.size = some { cls := .type "tuple", data := .seq (js.map fun i => acc.toList.toArray.getD i .none).toArray }
  sz : h'.objs.size = s.heap.objs.size + 1
  rest : ∀ b o, b ≠ c → s.heap.get? b = some o → h'.get? b = some o
theorem wp_numbers {st : Int} {Q : List Nat → Shared → Prop} (hc : s.heap.get? c = some (CombRec p st last js)) (h : Q js s) : wpAny (model prog w) A (Builtin.Itertools.itNumbersFrom (.ref c) 3) Q E s := by
  show wpAny _ _ (load c >>= _) _ _ _
  refine wpAny_bind (wpAny_load hc (wpAny_pure ?_))
  have key : ∀ l : List Nat, l = js → Q l s := fun l e => e ▸ h
  refine key _ ?_
  show List.map _ (List.map (fun (i : Nat) => rawInt i) js) = js
  rw [List.map_map]
  refine (List.map_congr_left fun i _ => ?_).trans (List.map_id js)
  exact Int.toNat_natCast i
theorem set_one (p : Addr) (st st' : Int) (last : Value) (js : List Nat) : ([Value.ref p, rawInt st, last] ++ js.map fun (i : Nat) => rawInt i).toArray.setIfInBounds 1 (rawInt st') = ([Value.ref p, rawInt st', last] ++ js.map fun (i : Nat) => rawInt i).toArray := by
  rw [List.setIfInBounds_toArray]
  rfl
theorem set_two (p : Addr) (st : Int) (last last' : Value) (js : List Nat) : ([Value.ref p, rawInt st, last] ++ js.map fun (i : Nat) => rawInt i).toArray.setIfInBounds 2 last' = ([Value.ref p, rawInt st, last'] ++ js.map fun (i : Nat) => rawInt i).toArray := by
  rw [List.setIfInBounds_toArray]
  rfl
/-- the tuple is made, kept and told -/
theorem hand_out {g : Heap} {Q : Value → Shared → Prop} (hc : g.get? c = some (CombRec p 1 last js)) (hp : PoolAt g p acc) (len : js.length ≤ 1000) (same : ∀ b o, b ≠ c → s.heap.get? b = some o → g.get? b = some o) (sz : g.objs.size = s.heap.objs.size)
    (q : ∀ h', CTo s c p acc js h' → Q (.ref s.heap.objs.size) { s with heap := h' }) :
    wpAny (model prog w) A ((Builtin.Itertools.itPoolItems (.ref p) >>= fun items => newTuple (js.map fun i => items.getD i .none)) >>= fun result => field (.ref c) 2 >>= fun before => setField (.ref c) 2 result >>= fun _ => letGo [before] [result] >>= fun _ => ret result)
      (fun r s' => ∃ v, r = .done (.ret v) ∧ Q v s') E { s with heap := g } := by
  refine wpAny_bind (wpAny_bind ?_)
  show wpAny _ _ (seqItems? (.ref p) >>= _) _ _ _
  refine wpAny_bind (wpAny_seqItems hp rfl (wpAny_pure ?_))
  have lim : (js.map fun i => acc.getD i .none).toArray.size ≤ sizeLine := by
    rw [sizeLine_eq]
    simp
    omega
  refine wpAny_newObj_type ?_ lim
  have hc1 : (g.push { cls := .type "tuple", data := .seq (js.map fun i => acc.getD i .none).toArray }).get? c = some (CombRec p 1 last js) := Heap.get?_push_of_some _ hc
  refine wpAny_bind (wpAny_field hc1 rfl (x := last) rfl (wpAny_bind (wpAny_setField_rec hc1 (by simp) fun g2 c2 b2 => wpAny_bind (wpAny_letGo (wpAny_pure ⟨_, rfl, ?_⟩)))))
  rw [set_two] at c2
  have cl : c < g.objs.size := Heap.lt_size hc
  have eT : g2.get? g.objs.size = some { cls := .type "tuple", data := .seq (js.map fun i => acc.getD i .none).toArray } := b2.extBut _ _ (Nat.ne_of_gt cl) (Heap.get?_push_size _ rfl)
  show Q (.ref g.objs.size) _
  rw [sz] at c2 eT ⊢
  refine q g2 ⟨c2, ?_, ?_, fun b o bc e => b2.extBut _ _ bc (Heap.get?_push_of_some _ (same b o bc e))⟩
  · rw [eT]
  · rw [b2.1, Heap.size_push, sz]
theorem comb_first {Q : Value → Shared → Prop} (hc : s.heap.get? c = some (CombRec p 0 .none js)) (hp : PoolAt s.heap p acc) (cp : p ≠ c) (len : js.length ≤ 1000) (q : ∀ h', CTo s c p acc js h' → Q (.ref s.heap.objs.size) { s with heap := h' }) :
    wpAny (model prog w) A (Builtin.«itertools.combinations.__next__» ⟨[.ref c], []⟩) (fun r s' => ∃ v, r = .done (.ret v) ∧ Q v s') E s := by
  show wpAny _ _ (field (.ref c) 0 >>= _) _ _ _
  refine wpAny_bind (wpAny_field hc rfl (x := .ref p) rfl ?_)
  show wpAny _ _ (Builtin.Itertools.itNumbersFrom (.ref c) 3 >>= _) _ _ _
  refine wpAny_bind (wp_numbers hc ?_)
  show wpAny _ _ (Builtin.Itertools.itIntField (.ref c) 1 >>= _) _ _ _
  refine wpAny_bind ?_
  show wpAny _ _ (field (.ref c) 1 >>= _) _ _ _
  refine wpAny_bind (wpAny_field hc rfl (x := rawInt 0) rfl (wpAny_pure ?_))
  show wpAny _ _ (setField (.ref c) 1 (rawInt 1) >>= _) _ _ _
  refine wpAny_bind (wpAny_setField_rec hc (by simp) fun g1 c1 b1 => ?_)
  rw [set_one] at c1
  exact hand_out c1 (b1.extBut _ _ cp hp) len (fun b o bc e => b1.extBut _ _ bc e) b1.1 q
theorem comb_more {Q : Value → Shared → Prop} (hc : s.heap.get? c = some (CombRec p 1 last is)) (hp : PoolAt s.heap p acc) (cp : p ≠ c) (hn : nextC acc.size is = some js) (len : js.length ≤ 1000) (q : ∀ h', CTo s c p acc js h' → Q (.ref s.heap.objs.size) { s with heap := h' }) :
    wpAny (model prog w) A (Builtin.«itertools.combinations.__next__» ⟨[.ref c], []⟩) (fun r s' => ∃ v, r = .done (.ret v) ∧ Q v s') E s := by
  show wpAny _ _ (field (.ref c) 0 >>= _) _ _ _
  refine wpAny_bind (wpAny_field hc rfl (x := .ref p) rfl ?_)
  show wpAny _ _ (Builtin.Itertools.itNumbersFrom (.ref c) 3 >>= _) _ _ _
  refine wpAny_bind (wp_numbers hc ?_)
  show wpAny _ _ (Builtin.Itertools.itIntField (.ref c) 1 >>= _) _ _ _
  refine wpAny_bind ?_
  show wpAny _ _ (field (.ref c) 1 >>= _) _ _ _
  refine wpAny_bind (wpAny_field hc rfl (x := rawInt 1) rfl (wpAny_pure ?_))
  show wpAny _ _ (Builtin.Itertools.itPoolItems (.ref p) >>= _) _ _ _
  refine wpAny_bind ?_
  show wpAny _ _ (seqItems? (.ref p) >>= _) _ _ _
  refine wpAny_bind (wpAny_seqItems hp rfl (wpAny_pure ?_))
  split
  · rename_i nx heq
    obtain rfl : nx = js := Option.some.inj (heq.symm.trans hn)
    refine wpAny_bind ?_
    show wpAny _ _ (updateFields c _) _ _ _
    have hz : nx.length + 3 ≤ sizeLine + 3 := by
      rw [sizeLine_eq]
      omega
    refine wpAny_updateFields hc rfl ?_ ?_
    · have c1 : (s.heap.update c (Obj.mapFields fun fs => fs.extract 0 3 ++ (nx.map fun (n : Nat) => rawInt n).toArray)).get? c = some (CombRec p 1 last nx) := by
        refine (Heap.get?_update_self _ hc rfl).trans ?_
        have e : (([Value.ref p, rawInt 1, last] ++ is.map fun (i : Nat) => rawInt i).toArray.extract 0 3) ++ (nx.map fun (n : Nat) => rawInt n).toArray = ([Value.ref p, rawInt 1, last] ++ nx.map fun (i : Nat) => rawInt i).toArray := by
          rw [List.extract_toArray, List.append_toArray]
          simp
        show some ({ cls := .type "itertools.combinations", dict := none, data := .fields ((([Value.ref p, rawInt 1, last] ++ is.map fun (i : Nat) => rawInt i).toArray.extract 0 3) ++ (nx.map fun (n : Nat) => rawInt n).toArray), slots := #[] } : Obj) = _
        rw [e]
        rfl
      have b1 : Heap.SameBut c s.heap (s.heap.update c (Obj.mapFields fun fs => fs.extract 0 3 ++ (nx.map fun (n : Nat) => rawInt n).toArray)) := Heap.SameBut.update ..
      exact hand_out c1 (b1.extBut _ _ cp hp) len (fun b o bc e => b1.extBut _ _ bc e) b1.1 q
    · show (([Value.ref p, rawInt 1, last] ++ is.map fun (i : Nat) => rawInt i).toArray.extract 0 3 ++ (nx.map fun (n : Nat) => rawInt n).toArray).size ≤ sizeLine + 3
      rw [Array.size_append, Array.size_extract]
      simp
      omega
  · rename_i heq
    exact absurd (heq.symm.trans hn) (by simp)
/-- behind the last -/
theorem comb_stop {Q : Value → Shared → Prop} (ha : A.handled = none) (q : ∀ h' x, (∀ b o, s.heap.get? b = some o → h'.get? b = some o) → (∃ o, h'.get? x = some o ∧ o.cls = .type "StopIteration") → E (.ref x) { s with heap := h' }) :
    wpAny (model prog w) A (Builtin.Itertools.itStop (α := Fin)) (fun r s' => ∃ v, r = .done (.ret v) ∧ Q v s') E s := by
  show wpAny _ _ (newExc (.type "StopIteration") [] >>= _) _ _ _
  refine wpAny_bind ?_
  simp only [newExc, newTuple]
  refine wpAny_bind (wpAny_newObj_type ?_ (by size_fits))
  refine wpAny_bind (m := firstArgMember _ _) (wpAny_of_eq (a := Value.none) (by first | rfl | (simp only [firstArgMember]; rfl)) ?_)
  refine wpAny_newObj_type ?_ (by size_fits)
  simp only [raiseNew]
  refine wpAny_bind (wpAny_handled ?_)
  rw [ha]
  refine wpAny_bind (wpAny_pure (wpAny_throw ?_))
  exact q _ _ (fun b o e => Heap.get?_push_of_some _ (Heap.get?_push_of_some _ e)) ⟨_, Heap.get?_push_size _ rfl, rfl⟩
end
end DR

set_option Elab.async false
set_option linter.all false
set_option maxRecDepth 100000
namespace DR
/-! ### all rising lists of k numbers, in their order -/
def combF : Nat → Nat → Nat → List (List Nat)
  | 0, _, _ => [[]]
  | _ + 1, 0, _ => []
  | k + 1, m + 1, lo => (combF k m (lo + 1)).map (lo :: ·) ++ combF (k + 1) m (lo + 1)
theorem mem_combF : ∀ (k m lo : Nat) (l : List Nat), l ∈ combF k m lo ↔ l.length = k ∧ l.Pairwise (· < ·) ∧ ∀ x ∈ l, lo ≤ x ∧ x < lo + m
  | 0, m, lo, l => by
    unfold combF
    constructor
    · intro h
      rw [List.mem_singleton.mp h]
      simp
    · rintro ⟨h, _⟩
      rw [List.eq_nil_of_length_eq_zero h]
      simp
  | k + 1, 0, lo, l => by
    unfold combF
    constructor
    · intro h
      cases h
    · rintro ⟨h1, _, h3⟩
      cases l with
      | nil => cases h1
      | cons x r =>
        have := h3 x (by simp)
        omega
  | k + 1, m + 1, lo, l => by
    unfold combF
    rw [List.mem_append, List.mem_map, mem_combF (k + 1) m (lo + 1) l]
    constructor
    · rintro (⟨r, hr, rfl⟩ | ⟨h1, h2, h3⟩)
      · obtain ⟨h1, h2, h3⟩ := (mem_combF k m (lo + 1) r).mp hr
        refine ⟨by simp [h1], List.pairwise_cons.mpr ⟨fun x hx => by have := h3 x hx; omega, h2⟩, fun x hx => ?_⟩
        rcases List.mem_cons.mp hx with e | hx
        · omega
        · have := h3 x hx
          omega
      · exact ⟨h1, h2, fun x hx => by have := h3 x hx; omega⟩
    · rintro ⟨h1, h2, h3⟩
      cases l with
      | nil => cases h1
      | cons x r =>
        have hx := h3 x (by simp)
        obtain ⟨p1, p2⟩ := List.pairwise_cons.mp h2
        by_cases c : x = lo
        · subst c
          refine .inl ⟨r, (mem_combF k m (x + 1) r).mpr ⟨by simpa using h1, p2, fun y hy => ?_⟩, rfl⟩
          have := p1 y hy
          have := h3 y (by simp [hy])
          omega
        · refine .inr ⟨h1, h2, fun y hy => ?_⟩
          have hy' := h3 y hy
          rcases List.mem_cons.mp hy with e | hy
          · omega
          · have := p1 y hy
            omega
theorem head_combF : ∀ (k m lo : Nat), (combF k m lo)[0]? = if k ≤ m then some ((List.range k).map (lo + ·)) else none
  | 0, m, lo => by
    unfold combF
    simp
  | k + 1, 0, lo => by
    unfold combF
    simp
  | k + 1, m + 1, lo => by
    unfold combF
    by_cases c : k ≤ m
    · have h := head_combF k m (lo + 1)
      rw [if_pos c] at h
      rw [List.getElem?_append_left (by
        rw [List.length_map]
        cases e : combF k m (lo + 1) with
        | nil =>
          rw [e] at h
          cases h
        | cons _ _ => simp), List.getElem?_map, h, if_pos (by omega)]
      show some (lo :: (List.range k).map (lo + 1 + ·)) = _
      rw [List.range_succ_eq_map, List.map_cons, List.map_map]
      congr 1
      congr 1
      refine List.map_congr_left fun i _ => ?_
      show lo + 1 + i = lo + (i + 1)
      omega
    · have h := head_combF k m (lo + 1)
      rw [if_neg c] at h
      have e1 : combF k m (lo + 1) = [] := by
        cases e : combF k m (lo + 1) with
        | nil => rfl
        | cons _ _ =>
          rw [e] at h
          cases h
      rw [e1, List.map_nil, List.nil_append, head_combF (k + 1) m (lo + 1), if_neg (by omega), if_neg (by omega)]
theorem nextC_cons (n x : Nat) (l : List Nat) : nextC n (x :: l) = match nextC n l with
    | some l' => some (x :: l')
    | none => if x ≠ n - (l.length + 1) then some ((List.range (l.length + 1)).map (x + 1 + ·)) else none := by
  have e1 : (List.range (l.length + 1)).reverse.find? (fun i => (x :: l).getD i 0 != i + n - (l.length + 1)) =
      (((List.range l.length).reverse.find? fun i => l.getD i 0 != i + n - l.length).map Nat.succ).or (if x ≠ n - (l.length + 1) then some 0 else none) := by
    rw [List.range_succ_eq_map, List.reverse_cons, List.find?_append, ← List.map_reverse, List.find?_map]
    have e2 : ((fun i => (x :: l).getD i 0 != i + n - (l.length + 1)) ∘ Nat.succ) = fun i => l.getD i 0 != i + n - l.length := by
      funext i
      show (((x :: l).getD (i + 1) 0) != (i + 1) + n - (l.length + 1)) = _
      rw [show (i + 1) + n - (l.length + 1) = i + n - l.length by omega]
      rfl
    rw [e2]
    congr 1
    rw [List.find?_cons]
    show (match (x != 0 + n - (l.length + 1)) with | true => some 0 | false => _) = _
    rw [Nat.zero_add]
    by_cases c : x = n - (l.length + 1)
    · simp [c]
    · rw [if_pos c, show (x != n - (l.length + 1)) = true from bne_iff_ne.mpr c]
  unfold nextC
  simp only [List.length_cons]
  rw [e1]
  cases h : (List.range l.length).reverse.find? (fun i => l.getD i 0 != i + n - l.length) with
  | some i =>
    show some ((x :: l).take (i + 1) ++ (List.range (l.length + 1 - (i + 1))).map ((x :: l).getD (i + 1) 0 + 1 + ·)) = _
    rw [show l.length + 1 - (i + 1) = l.length - i by omega]
    rfl
  | none =>
    show (match (none : Option Nat).or (if x ≠ n - (l.length + 1) then some 0 else none) with | none => none | some i => some ((x :: l).take i ++ (List.range (l.length + 1 - i)).map ((x :: l).getD i 0 + 1 + ·))) = _
    by_cases c : x = n - (l.length + 1)
    · simp [c]
    · simp [c]
theorem chain_combF : ∀ (k m lo i : Nat) (l : List Nat), (combF k m lo)[i]? = some l → nextC (lo + m) l = (combF k m lo)[i + 1]?
  | 0, m, lo, i, l, h => by
    unfold combF at h ⊢
    cases i with
    | zero =>
      have e : l = [] := by simpa using h.symm
      rw [e]
      rfl
    | succ i => simp at h
  | k + 1, 0, lo, i, l, h => by
    unfold combF at h
    simp at h
  | k + 1, m + 1, lo, i, l, h => by
    unfold combF at h ⊢
    have en : lo + (m + 1) = lo + 1 + m := by omega
    rw [en]
    by_cases c : i < ((combF k m (lo + 1)).map (lo :: ·)).length
    · rw [List.getElem?_append_left c, List.getElem?_map] at h
      cases e : (combF k m (lo + 1))[i]? with
      | none =>
        rw [e] at h
        cases h
      | some r =>
        rw [e] at h
        have h : lo :: r = l := Option.some.inj h
        subst h
        have ih := chain_combF k m (lo + 1) i r e
        have rl := ((mem_combF k m (lo + 1) r).mp (List.mem_of_getElem? e)).1
        rw [nextC_cons, ih, rl]
        rw [List.length_map] at c
        by_cases c2 : i + 1 < (combF k m (lo + 1)).length
        · rw [List.getElem?_append_left (by rw [List.length_map]; exact c2), List.getElem?_map, List.getElem?_eq_getElem c2]
          rfl
        · rw [List.getElem?_append_right (by rw [List.length_map]; omega), List.length_map, show i + 1 - (combF k m (lo + 1)).length = 0 by omega, head_combF, List.getElem?_eq_none (by omega)]
          have km : k ≤ m := by
            have h0 := head_combF k m (lo + 1)
            by_cases c3 : k ≤ m
            · exact c3
            · rw [if_neg c3] at h0
              have : (combF k m (lo + 1)).length = 0 := by
                have := List.getElem?_eq_none_iff.mp h0
                omega
              omega
          by_cases c3 : k + 1 ≤ m
          · rw [if_pos c3]
            show (if lo ≠ lo + 1 + m - (k + 1) then _ else _) = _
            rw [if_pos (by omega)]
          · rw [if_neg c3]
            show (if lo ≠ lo + 1 + m - (k + 1) then _ else _) = _
            rw [if_neg (by omega)]
    · rw [List.getElem?_append_right (by omega)] at h ⊢
      · have ih := chain_combF (k + 1) m (lo + 1) _ l h
        rw [ih]
        congr 1
        omega
theorem chain0 {n k i : Nat} {l : List Nat} (h : (combF k n 0)[i]? = some l) : nextC n l = (combF k n 0)[i + 1]? := by
  have := chain_combF k n 0 i l h
  rwa [Nat.zero_add] at this
theorem head0 {n k : Nat} : (combF k n 0)[0]? = if k ≤ n then some (List.range k) else none := by
  rw [head_combF]
  simp
end DR

set_option Elab.async false
set_option linter.all false
set_option maxRecDepth 100000
set_option maxHeartbeats 4000000
namespace DR
open PySem PySem.W PyProof.Rows L2
section
variable {prog : Program} {w : World} {A : Around} {E : Value → Shared → Prop} {s : Shared} {c p : Addr} {n : Nat} {acc : Array Value} {is js : List Nat} {last : Value}
theorem comb_end1 {Q : Value → Shared → Prop} (ha : A.handled = none) (hc : s.heap.get? c = some (CombRec p 1 last is)) (hp : PoolAt s.heap p acc) (hn : nextC acc.size is = none)
    (q : ∀ h' x, (∀ b o, b ≠ c → s.heap.get? b = some o → h'.get? b = some o) → (∃ o, h'.get? x = some o ∧ o.cls = .type "StopIteration") → E (.ref x) { s with heap := h' }) :
    wpAny (model prog w) A (Builtin.«itertools.combinations.__next__» ⟨[.ref c], []⟩) (fun r s' => ∃ v, r = .done (.ret v) ∧ Q v s') E s := by
  show wpAny _ _ (field (.ref c) 0 >>= _) _ _ _
  refine wpAny_bind (wpAny_field hc rfl (x := .ref p) rfl ?_)
  show wpAny _ _ (Builtin.Itertools.itNumbersFrom (.ref c) 3 >>= _) _ _ _
  refine wpAny_bind (wp_numbers hc ?_)
  show wpAny _ _ (Builtin.Itertools.itIntField (.ref c) 1 >>= _) _ _ _
  refine wpAny_bind ?_
  show wpAny _ _ (field (.ref c) 1 >>= _) _ _ _
  refine wpAny_bind (wpAny_field hc rfl (x := rawInt 1) rfl (wpAny_pure ?_))
  show wpAny _ _ (Builtin.Itertools.itPoolItems (.ref p) >>= _) _ _ _
  refine wpAny_bind ?_
  show wpAny _ _ (seqItems? (.ref p) >>= _) _ _ _
  refine wpAny_bind (wpAny_seqItems hp rfl (wpAny_pure ?_))
  split
  · rename_i heq
    exact absurd (heq.symm.trans hn) (by simp)
  · refine wpAny_bind (wpAny_setField_rec hc (by simp) fun g1 c1 b1 => ?_)
    exact comb_stop (s := { s with heap := g1 }) ha fun h' x k hx => q h' x (fun b o bc e => k b o (b1.extBut b o bc e)) hx
theorem comb_end2 {Q : Value → Shared → Prop} (ha : A.handled = none) (hc : s.heap.get? c = some (CombRec p 2 last is))
    (q : ∀ h' x, (∀ b o, b ≠ c → s.heap.get? b = some o → h'.get? b = some o) → (∃ o, h'.get? x = some o ∧ o.cls = .type "StopIteration") → E (.ref x) { s with heap := h' }) :
    wpAny (model prog w) A (Builtin.«itertools.combinations.__next__» ⟨[.ref c], []⟩) (fun r s' => ∃ v, r = .done (.ret v) ∧ Q v s') E s := by
  show wpAny _ _ (field (.ref c) 0 >>= _) _ _ _
  refine wpAny_bind (wpAny_field hc rfl (x := .ref p) rfl ?_)
  show wpAny _ _ (Builtin.Itertools.itNumbersFrom (.ref c) 3 >>= _) _ _ _
  refine wpAny_bind (wp_numbers hc ?_)
  show wpAny _ _ (Builtin.Itertools.itIntField (.ref c) 1 >>= _) _ _ _
  refine wpAny_bind ?_
  show wpAny _ _ (field (.ref c) 1 >>= _) _ _ _
  refine wpAny_bind (wpAny_field hc rfl (x := rawInt 2) rfl (wpAny_pure ?_))
  refine wpAny_bind (wpAny_rule ?_)
  exact comb_stop ha fun h' x k hx => q h' x (fun b o _ e => k b o e) hx
theorem wpAny_pyIter_comb {st : Int} {Q : Value → Shared → Prop} (hc : s.heap.get? c = some (CombRec p st last is)) (h : Q (.ref c) s) : wpAny (model prog w) A (pyIter (.ref c)) Q E s := by
  have hT : s.TypeIs (.ref c) "itertools.combinations" := ⟨_, hc, rfl⟩
  refine wpAny_pyIter_slot hT CF.slot_iter (wpAny_call_entry CF.slot_iter hT CF.entry_iter ?_ (CF.args_iter_1 _))
  show wpAny _ _ (ret (.ref c)) _ _ s
  exact wpAny_pure ⟨_, rfl, "itertools.combinations", _, hT, CF.slot_next.lookup, h⟩
theorem cn_item {st : Int} {Q : Option Value → Shared → Prop} (hc : s.heap.get? c = some (CombRec p st last is))
    (inner : ∀ (A : Around) (E : Value → Shared → Prop) (R : Value → Shared → Prop), (∀ h', CTo s c p acc js h' → R (.ref s.heap.objs.size) { s with heap := h' }) →
      wpAny (model prog w) A (Builtin.«itertools.combinations.__next__» ⟨[.ref c], []⟩) (fun r s' => ∃ v, r = .done (.ret v) ∧ R v s') E s)
    (q : ∀ h', CTo s c p acc js h' → Q (some (.ref s.heap.objs.size)) { s with heap := h' }) : wpAny (model prog w) A (pyNext (.ref c)) Q E s := by
  have ty : s.TypeIs (.ref c) "itertools.combinations" := ⟨_, hc, rfl⟩
  unfold pyNext
  exact wpAny_bind (wpAny_attempt (wpAny_callSpecial?_slot (name := Str.ofString "__next__") ty CF.slot_next
    (wpAny_call_entry CF.slot_next ty CF.entry_next (inner _ _ _ fun h' t => wpAny_pure (q h' t)) (CF.args_next_1 _))))
theorem cn_end {st : Int} {Q : Option Value → Shared → Prop} (ha : A.handled = none) (hc : s.heap.get? c = some (CombRec p st last is))
    (inner : ∀ (A : Around) (E : Value → Shared → Prop) (R : Value → Shared → Prop), A.handled = none → (∀ h' x, (∀ b o, b ≠ c → s.heap.get? b = some o → h'.get? b = some o) → (∃ o, h'.get? x = some o ∧ o.cls = .type "StopIteration") → E (.ref x) { s with heap := h' }) →
      wpAny (model prog w) A (Builtin.«itertools.combinations.__next__» ⟨[.ref c], []⟩) (fun r s' => ∃ v, r = .done (.ret v) ∧ R v s') E s)
    (q : ∀ h', (∀ b o, b ≠ c → s.heap.get? b = some o → h'.get? b = some o) → Q none { s with heap := h' }) : wpAny (model prog w) A (pyNext (.ref c)) Q E s := by
  have ty : s.TypeIs (.ref c) "itertools.combinations" := ⟨_, hc, rfl⟩
  unfold pyNext
  refine wpAny_bind (wpAny_attempt (wpAny_callSpecial?_slot (name := Str.ofString "__next__") ty CF.slot_next
    (wpAny_call_entry CF.slot_next ty CF.entry_next (inner _ _ _ ha fun h' x k hx => ?_) (CF.args_next_1 _))))
  obtain ⟨o, ho, hc⟩ := hx
  exact wpAny_bind (wpAny_isInstance (T := "StopIteration") (b := true) ⟨o, ho, hc⟩ isSubtype_stop (wpAny_pure (q h' k)))
end
/-! ### as an iterator -/
def Itcb (n k : Nat) : It := ⟨fun i _ => i < (combF k n 0).length,
  fun i H v H' => ∃ T js, v = .ref T ∧ (combF k n 0)[i]? = some js ∧ H T = none ∧ H' = upd H T (.tup (js.map fun j => V.int (j : Nat))),
  fun i _ => (combF k n 0).length ≤ i⟩
def CombSt (n k : Nat) (c p : Addr) (i : Nat) (h : Heap) : Prop := (∃ acc, PoolAt h p acc ∧ ItemsOf (fun i v => ∃ t, v = .int (0 + i * 1) t) acc n) ∧
  match i with
  | 0 => h.get? c = some (CombRec p (if k > n then 2 else 0) .none (List.range k))
  | i + 1 => ∃ js last, (combF k n 0)[i]? = some js ∧ h.get? c = some (CombRec p 1 last js)
theorem CombSt.rec_ {n k : Nat} {c p : Addr} {i : Nat} {h : Heap} (st : CombSt n k c p i h) : ∃ st last is, h.get? c = some (CombRec p st last is) := by
  obtain ⟨_, st⟩ := st
  cases i with
  | zero => exact ⟨_, _, _, st⟩
  | succ i =>
    obtain ⟨js, last, _, e⟩ := st
    exact ⟨_, _, _, e⟩
theorem turn_comb {P : Program} {w : World} {K : PySem.W.Frag} {tg : Expr} {n k : Nat} {c p : Addr} (cp : p ≠ c) (hk : k ≤ 1000) (hn : n ≤ 1000) :
    Turn P w K tg (Itcb n k) [c, p] c (CombSt n k c p) where
  mem := by simp
  obj := fun i h st b hb => by
    obtain ⟨s1, l1, i1, e⟩ := st.rec_
    obtain ⟨⟨acc, hp, _⟩, _⟩ := st
    have e' : b = c ∨ b = p := by simpa using hb
    rcases e' with r | r
    · exact r ▸ ⟨_, e, fun v t => nomatch t⟩
    · exact r ▸ ⟨_, hp, fun v t => nomatch t⟩
  keep := fun i h h' st kp => by
    obtain ⟨⟨acc, hp, hi⟩, st⟩ := st
    refine ⟨⟨acc, kp p (by simp) _ hp, hi⟩, ?_⟩
    cases i with
    | zero => exact kp c (by simp) _ st
    | succ i =>
      obtain ⟨js, last, e1, e2⟩ := st
      exact ⟨js, last, e1, kp c (by simp) _ e2⟩
  item := by
    intro X hP hw hK hc i pins s σ H E I hf st hg
    subst hP hw hK
    obtain ⟨s1, l1, i1, er⟩ := st.rec_
    obtain ⟨⟨acc, hp, hi⟩, st⟩ := st
    have cl : c < s.heap.objs.size := Heap.lt_size er
    have pl : p < s.heap.objs.size := Heap.lt_size hp
    have hg : i < (combF k n 0).length := hg
    have hjs : (combF k n 0)[i]? = some (combF k n 0)[i] := List.getElem?_eq_getElem hg
    generalize (combF k n 0)[i] = js at hjs
    obtain ⟨jl, jp, jr⟩ := (mem_combF k n 0 js).mp (List.mem_of_getElem? hjs)
    have as : acc.size = n := hi.1
    refine cn_item (js := js) (acc := acc) er (fun A E R r => ?_) fun h' t => ?_
    · cases i with
      | zero =>
        have h0 := head0 (n := n) (k := k)
        rw [hjs] at h0
        have kn : k ≤ n := by
          by_cases z : k ≤ n
          · exact z
          · rw [if_neg z] at h0
            cases h0
        rw [if_pos kn] at h0
        have h0 : js = List.range k := Option.some.inj h0
        have st : s.heap.get? c = some (CombRec p (if k > n then 2 else 0) .none (List.range k)) := st
        rw [if_neg (show ¬ k > n by omega)] at st
        subst h0
        exact comb_first st hp cp (by omega) r
      | succ i =>
        obtain ⟨is, last, e1, e2⟩ := st
        exact comb_more e2 hp cp (by rw [as, chain0 e1, hjs]) (by omega) r
    · refine ⟨_, rfl, go_of (s := { s with heap := h' }) t.rcd rfl rfl (by decide) ?_⟩
      have newT : ObjOk X.prog X.w (upd H s.heap.objs.size (.tup (js.map fun j => V.int (j : Nat)))) h' s.heap.objs.size (.tup (js.map fun j => V.int (j : Nat))) := by
        refine ⟨by rw [List.length_map, sizeLine_eq]; omega, js.map fun i => acc.toList.toArray.getD i .none, ?_, ⟨_, t.new, rfl, _, rfl⟩⟩
        have key : ∀ l : List Nat, (∀ x ∈ l, x < n) → Vals (l.map fun j => V.int (j : Nat)) (l.map fun i => acc.toList.toArray.getD i .none) := by
          intro l
          induction l with
          | nil => exact fun _ => .nil
          | cons x l ih =>
            intro hl
            have hx := hl x (by simp)
            refine .cons ?_ (ih fun y hy => hl y (by simp [hy]))
            have e : acc[x]? = some (acc.toList.toArray.getD x .none) := by
              rw [Array.getElem?_eq_getElem (by omega)]
              simp [show x < acc.size by omega]
            obtain ⟨tk, e2⟩ := hi.2 x _ e
            show L2.RelV (V.int (x : Nat)) (acc.toList.toArray.getD x .none)
            rw [e2]
            exact ⟨tk, by simp⟩
        exact key js fun x hx => by have := jr x hx; omega
      have I1 : Inv X pins σ (upd H s.heap.objs.size (.tup (js.map fun j => V.int (j : Nat)))) { s with heap := h' } :=
        I.turnedNew (t' := s.toks) (ch := [c, p]) (fun b o hb q => t.rest b o (fun r => hb (by simp [r])) q) hf (Nat.le_refl _) newT
      refine ⟨.ref s.heap.objs.size, _, I1, rfl, ⟨_, js, rfl, hjs, I.hok.fresh (Nat.le_refl _), rfl⟩, ⟨⟨acc, t.rest _ _ cp hp, hi⟩, js, _, hjs, t.rcd⟩, fun b hb => ?_⟩
      have bl : b < s.heap.objs.size := by
        have e' : b = c ∨ b = p := by simpa using hb
        rcases e' with r | r <;> rw [r] <;> assumption
      rw [upd_ne (Nat.ne_of_lt bl)]
      exact (hf b hb).1
  done := by
    intro X hP hw hK hc i pins s σ H E I hf st hg
    subst hP hw hK
    obtain ⟨s1, l1, i1, er⟩ := st.rec_
    obtain ⟨⟨acc, hp, hi⟩, st⟩ := st
    have hg : (combF k n 0).length ≤ i := hg
    have as : acc.size = n := hi.1
    refine cn_end (I.ok.hd hc) er (fun A E R ha r => ?_) fun h' t => ⟨rfl, I.turnedL (t' := s.toks) (ch := [c, p]) (fun b o hb q => t b o (fun r => hb (by simp [r])) q) hf⟩
    cases i with
    | zero =>
      have h0 := head0 (n := n) (k := k)
      rw [List.getElem?_eq_none hg] at h0
      have kn : k > n := by
        by_cases z : k ≤ n
        · rw [if_pos z] at h0
          cases h0
        · omega
      have st : s.heap.get? c = some (CombRec p (if k > n then 2 else 0) .none (List.range k)) := st
      rw [if_pos kn] at st
      exact comb_end2 ha st r
    | succ i =>
      obtain ⟨is, last, e1, e2⟩ := st
      exact comb_end1 ha e2 hp (by rw [as, chain0 e1, List.getElem?_eq_none hg]) r
  self := fun A i s Q E st h => by
    obtain ⟨s1, l1, i1, er⟩ := st.rec_
    exact wpAny_pyIter_comb er h
end DR

set_option Elab.async false
set_option linter.all false
set_option maxRecDepth 100000
set_option maxHeartbeats 4000000
namespace DR
open PySem PySem.W PyProof.Rows L2
def iComb (te tb : TE) : TI := fun σ H R => te σ H fun x H1 => ∃ n : Nat, x = .int (n : Nat) ∧ n ≤ 1000 ∧ tb σ H1 fun y H2 => ∃ k : Nat, y = .int (k : Nat) ∧ k ≤ 1000 ∧ R (Itcb n k) H2
theorem pi_comb {X : Cx} {tg e b : Expr} {te tb : TE} {p pos p2 pos2 : Pos} (hc : X.calm = true) (hgc : Gl X "combinations") (hmc : X.mg "combinations" = some (.type "itertools.combinations")) (hgr : Gl X "range") (hmr : X.mg "range" = none) (he : PE X e te) (hb : PE X b tb)
    (na : starEach [.Call (.Name "range" p2) [e] [] pos2, b] X.env = (false, eval (.Call (.Name "range" p2) [e] [] pos2) X.env) :: starEach [b] X.env := by rfl)
    (nb : starEach [b] X.env = (false, eval b X.env) :: starEach [] X.env := by rfl) (ne : starEach [e] X.env = (false, eval e X.env) :: starEach [] X.env := by rfl) (hp : (backTo pos (starEach [b] X.env)).any (·.1) = false := by rfl)
    (hd : (("combinations" : Str) == ("__debug__" : Str)) = false := by decide) :
    PI X tg (.Call (.Name "combinations" p) [.Call (.Name "range" p2) [e] [] pos2, b] [] pos) (iComb te tb) := by
  refine ⟨fun pins s σ H R I h => ?_⟩
  refine Call_ (ld_glob I hgc hmc (PyProof.Rows.callWith_type1 ?_ na hp) hd)
  refine args_cons ?_ na
  refine Call_ (ld_blt I hgr hmr boot_range (PyProof.Rows.callWith_type1 (one_arg he I h (fun v s2 x H2 I2 r q => ?_) ne) ne))
  obtain ⟨n, rfl, hn, q⟩ := q
  obtain ⟨t, rfl⟩ := r
  refine call_range_1 ?_
  have rl : s2.heap.objs.size ∉ X.fs := I2.nofs (Nat.le_refl _)
  have rn : H2 s2.heap.objs.size = none := I2.hok.fresh (Nat.le_refl _)
  have rL : s2.heap.objs.size ≠ X.env.locals := Nat.ne_of_gt I2.lt
  have I3 : Inv X pins σ H2 { s2 with heap := s2.heap.push { cls := .type "range", data := .fields #[.int 0 s2.toks, .int n t, .int 1 (s2.toks + 1)] }, toks := s2.toks + 1 + 1 } := I2.kept fun b u e => Heap.get?_push_of_some _ e
  have hr0 : (s2.heap.push { cls := .type "range", data := .fields #[.int 0 s2.toks, .int n t, .int 1 (s2.toks + 1)] }).get? s2.heap.objs.size = some { cls := .type "range", data := .fields #[.int 0 s2.toks, .int n t, .int 1 (s2.toks + 1)] } := Heap.get?_push_size _ rfl
  generalize hro : ({ cls := .type "range", data := .fields #[.int 0 s2.toks, .int n t, .int 1 (s2.toks + 1)] } : Obj) = ro at I3 hr0
  have I4 : Inv X ((s2.heap.objs.size, ro) :: pins) σ H2 { s2 with heap := s2.heap.push ro, toks := s2.toks + 1 + 1 } := I3.pins_of fun p hp => by
    rcases List.mem_cons.mp hp with e | hp
    · subst e
      refine ⟨hr0, rn, rL, rl, fun v z => ?_⟩
      rw [← hro] at z
      cases z
    · exact I3.pin p (List.mem_append_right _ hp)
  show wpAny _ _ (spliced (backTo pos (starEach [b] X.env))) _ _ _
  refine one_arg hb I4 q (fun u s4 y H4 I5 r5 q5 => ?_) nb
  obtain ⟨k, rfl, hk, qR⟩ := q5
  obtain ⟨tk, rfl⟩ := r5
  have pr := (I5.pin (s2.heap.objs.size, ro) (List.mem_append_right _ List.mem_cons_self)).1
  rw [← hro] at pr
  have I6 : Inv X pins σ H4 s4 := I5.pins_of fun p hp => I5.pin p (List.mem_append_right _ (List.mem_cons_of_mem _ hp))
  refine callType_new CF.called (by decide) (CF.typeCall_2 _ _) (CF.newCall_2 _ _) (fun obj => F.args_object_init_3 obj _ _) CF.entry_new (meets_comb_new s2.heap.objs.size n k hk hn s2.toks t (s2.toks + 1) tk) ⟨I6.ok.hd hc, pr, fun h' tk' acc keep items => ?_⟩
  have ec : ((h'.push { cls := .type "tuple", data := .seq acc }).push (CombRec h'.objs.size (if k > n then 2 else 0) .none (List.range k))).get? (h'.push { cls := .type "tuple", data := .seq acc }).objs.size = some (CombRec h'.objs.size (if k > n then 2 else 0) .none (List.range k)) := Heap.get?_push_size _ rfl
  have ep : PoolAt ((h'.push { cls := .type "tuple", data := .seq acc }).push (CombRec h'.objs.size (if k > n then 2 else 0) .none (List.range k))) h'.objs.size acc := Heap.get?_push_of_some _ (Heap.get?_push_size _ rfl)
  have cs : (h'.push { cls := .type "tuple", data := .seq acc }).objs.size = h'.objs.size + 1 := Heap.size_push ..
  have I8 : Inv X pins σ H4 { s4 with heap := h', toks := tk' } := I6.kept keep
  refine ⟨⟨_, ec, rfl⟩, wpAny_pyIter_comb ec ?_⟩
  have I7 : Inv X pins σ H4 { s4 with heap := (h'.push { cls := .type "tuple", data := .seq acc }).push (CombRec h'.objs.size (if k > n then 2 else 0) .none (List.range k)), toks := tk' } := I6.kept fun b u e => Heap.get?_push_of_some _ (Heap.get?_push_of_some _ (keep b u e))
  refine ⟨_, [(h'.push { cls := .type "tuple", data := .seq acc }).objs.size, h'.objs.size], CombSt n k _ _, Itcb n k, H4, rfl, I7, turn_comb (Nat.ne_of_lt (by rw [cs]; exact Nat.lt_succ_self _)) hk hn, ⟨⟨acc, ep, items⟩, ec⟩, fun b hb => ?_, qR⟩
  have bl : h'.objs.size ≤ b := by
    have e' : b = (h'.push { cls := .type "tuple", data := .seq acc }).objs.size ∨ b = h'.objs.size := by simpa using hb
    rcases e' with z | z
    · rw [z, cs]
      exact Nat.le_succ _
    · rw [z]
      exact Nat.le_refl _
  exact I8.fpOk bl (I8.hok.fresh bl)
end DR

set_option Elab.async false
set_option linter.all false
set_option maxRecDepth 100000
set_option maxHeartbeats 4000000
namespace DR
open PySem PySem.W PyProof.Rows L2
/-- for places in combinations(..) -/
theorem for_comb {n k : Nat} {g : TG} {tb : TS} {D : Ends} {σ : L2.St} {H : Hp} (Pv : Nat → L2.St → Hp → Prop) (h0 : Pv 0 σ H)
    (hs : ∀ i js σ H T, (combF k n 0)[i]? = some js → Pv i σ H → H T = none → g (.ref T) σ (upd H T (.tup (js.map fun j => V.int (j : Nat)))) fun σ2 H2 => tb { D with nx := Pv (i + 1), ct := Pv (i + 1), bk := D.nx } σ2 H2)
    (hd : ∀ σ H, Pv (combF k n 0).length σ H → D.nx σ H) :
    ∃ W : Nat → Nat → L2.St → Hp → Prop, (∃ m, W 0 m σ H) ∧ ∀ i m σ H, W i m σ H →
      ((Itcb n k).stop i H ∧ D.nx σ H) ∨ ((Itcb n k).go i H ∧ ∃ N : L2.St → Hp → Prop, (∀ σ' H', N σ' H' → ∃ m', m' < m ∧ W (i + 1) m' σ' H') ∧ ∀ x H', (Itcb n k).yld i H x H' → g x σ H' fun σ2 H2 => tb { D with nx := N, ct := N, bk := D.nx } σ2 H2) := by
  refine ⟨fun i m σ H => m = (combF k n 0).length - i ∧ i ≤ (combF k n 0).length ∧ Pv i σ H, ⟨_, rfl, Nat.zero_le _, h0⟩, ?_⟩
  rintro i m σ H ⟨rfl, hi, p⟩
  by_cases hlt : i < (combF k n 0).length
  · refine .inr ⟨hlt, Pv (i + 1), fun σ' H' p' => ⟨_, by omega, rfl, hlt, p'⟩, fun x H' y => ?_⟩
    obtain ⟨T, js, rfl, e, nT, rfl⟩ := y
    exact hs i js σ H T e p nT
  · have e : i = (combF k n 0).length := by omega
    subst e
    exact .inl ⟨Nat.le_refl _, hd σ H p⟩
end DR

set_option Elab.async false
set_option linter.all false
set_option maxRecDepth 100000
set_option maxHeartbeats 4000000
namespace DR
open PySem PySem.Spec PyProof.Rows L2
theorem inV_dec (a : Int) (ns : List Int) : inV (.int a) (ns.map V.int) = decide (a ∈ ns) := by
  unfold inV
  rw [Bool.eq_iff_iff, List.any_eq_true, decide_eq_true_iff]
  constructor
  · rintro ⟨y, hy, e⟩
    obtain ⟨b, hb, rfl⟩ := List.mem_map.mp hy
    have : b = a := by simpa [eqV] using e
    exact this ▸ hb
  · intro h
    exact ⟨.int a, List.mem_map.mpr ⟨a, h, rfl⟩, by simp [eqV]⟩
theorem flat_intsV (ns : List Int) : (ns.map V.int).all flatV = true := by
  rw [List.all_eq_true]
  intro x hx
  obtain ⟨i, _, rfl⟩ := List.mem_map.mp hx
  rfl
end DR

set_option Elab.async false
set_option linter.all false
set_option maxRecDepth 100000
set_option maxHeartbeats 4000000
/-! ### groups -/
namespace DR
open PySem PySem.Spec PyProof.Rows L2
/-- from one to the other by ties, through the list alone -/
inductive Rch (ps : List (Int × Int)) (L : List Int) (a : Int) : Int → Prop
  | here : a ∈ L → Rch ps L a a
  | on {b c : Int} : Rch ps L a b → c ∈ L → tied ps b c = true → Rch ps L a c
theorem Rch.mem {ps : List (Int × Int)} {L : List Int} {a b : Int} (h : Rch ps L a b) : b ∈ L := by
  cases h with
  | here h => exact h
  | on _ h _ => exact h
open Classical in
/-- the group of one among those of the list -/
noncomputable def compOf (ps : List (Int × Int)) (L : List Int) (a : Int) : List Int := L.filter fun x => decide (Rch ps L a x)
open Classical in
theorem mem_comp {ps : List (Int × Int)} {L : List Int} {a x : Int} : x ∈ compOf ps L a ↔ Rch ps L a x := by
  unfold compOf
  rw [List.mem_filter]
  exact ⟨fun h => of_decide_eq_true h.2, fun h => ⟨h.mem, decide_eq_true h⟩⟩
/-- the groups, one after another -/
noncomputable def groupsF (ps : List (Int × Int)) : Nat → List Int → List (List Int)
  | 0, _ => []
  | _ + 1, [] => []
  | f + 1, a :: l => compOf ps (a :: l) a :: groupsF ps f ((a :: l).filter fun x => !decide (x ∈ compOf ps (a :: l) a))
def leftP (n : Nat) (gone : List Int) : List Int := (upTo n).filter fun x => !decide (x ∈ gone)
noncomputable def groupsOf (n : Nat) (ps : List (Int × Int)) (gone : List Int) : List (List Int) := groupsF ps n (leftP n gone)
theorem left_less {ps : List (Int × Int)} {a : Int} {l : List Int} : ((a :: l).filter fun x => !decide (x ∈ compOf ps (a :: l) a)).length ≤ l.length := by
  have ha : a ∈ compOf ps (a :: l) a := mem_comp.mpr (.here (by simp))
  rw [List.filter_cons, if_neg (by simp [ha])]
  exact List.length_filter_le _ _
theorem groupsF_more {ps : List (Int × Int)} : ∀ (f : Nat) (L : List Int), L.length ≤ f → groupsF ps (f + 1) L = groupsF ps f L
  | 0, L, h => by
    rw [List.eq_nil_of_length_eq_zero (Nat.le_zero.mp h)]
    rfl
  | f + 1, [], _ => rfl
  | f + 1, a :: l, h => by
    show compOf ps (a :: l) a :: groupsF ps (f + 1) _ = compOf ps (a :: l) a :: groupsF ps f _
    rw [groupsF_more f]
    have := left_less (ps := ps) (a := a) (l := l)
    simp at h
    omega
theorem groupsF_at {ps : List (Int × Int)} {L : List Int} : ∀ {f : Nat}, L.length ≤ f → groupsF ps f L = groupsF ps L.length L
  | f, h => by
    obtain ⟨d, rfl⟩ : ∃ d, f = L.length + d := ⟨f - L.length, by omega⟩
    clear h
    induction d with
    | zero => rfl
    | succ d ih =>
      rw [← Nat.add_assoc, groupsF_more _ _ (by omega), ih]
theorem groupsF_cons {ps : List (Int × Int)} {a : Int} {l : List Int} : groupsF ps (a :: l).length (a :: l) = compOf ps (a :: l) a :: groupsF ps ((a :: l).filter fun x => !decide (x ∈ compOf ps (a :: l) a)).length ((a :: l).filter fun x => !decide (x ∈ compOf ps (a :: l) a)) := by
  show compOf ps (a :: l) a :: groupsF ps l.length _ = _
  rw [groupsF_at left_less]
theorem groupsF_len {ps : List (Int × Int)} : ∀ (f : Nat) (L : List Int), (groupsF ps f L).length ≤ f
  | 0, _ => Nat.zero_le _
  | f + 1, [] => Nat.zero_le _
  | f + 1, a :: l => Nat.succ_le_succ (groupsF_len f _)
theorem upTo_lt (n : Nat) : (upTo n).Pairwise (· < ·) := by
  unfold upTo
  rw [List.pairwise_map]
  exact List.pairwise_lt_range.imp fun h => by omega
theorem leftP_lt (n : Nat) (gone : List Int) : (leftP n gone).Pairwise (· < ·) := (upTo_lt n).filter _
/-! ### one group, grown -/
def growOn (ps : List (Int × Int)) (others g : List Int) (at_ : Nat) : List Int := g ++ others.filter fun x => !decide (x ∈ g) && tied ps (g.getD at_ 0) x
structure Grown (ps : List (Int × Int)) (a : Int) (others g : List Int) (at_ : Nat) : Prop where
  has : a ∈ g
  reach : ∀ x ∈ g, Rch ps (a :: others) a x
  done : ∀ i, i < at_ → ∀ x ∈ others, tied ps (g.getD i 0) x = true → x ∈ g
  nd : g.Nodup
  at_le : at_ ≤ g.length
theorem Grown.first (ps : List (Int × Int)) (a : Int) (others : List Int) : Grown ps a others [a] 0 := ⟨by simp, fun x hx => by rw [List.mem_singleton.mp hx]; exact .here (by simp), fun i h => absurd h (Nat.not_lt_zero i), by simp, Nat.zero_le _⟩
theorem Grown.len {ps : List (Int × Int)} {a : Int} {others g : List Int} {k : Nat} (h : Grown ps a others g k) : g.length ≤ others.length + 1 := by
  have := nodup_le g (a :: others) h.nd fun x hx => (h.reach x hx).mem
  simpa using this
theorem Grown.on {ps : List (Int × Int)} {a : Int} {others g : List Int} {k : Nat} (h : Grown ps a others g k) (ond : others.Nodup) (hk : k < g.length) : Grown ps a others (growOn ps others g k) (k + 1) := by
  have eg : ∀ i, i < g.length → (growOn ps others g k).getD i 0 = g.getD i 0 := fun i hi => by
    unfold growOn
    rw [List.getD_eq_getElem?_getD, List.getElem?_append_left hi, ← List.getD_eq_getElem?_getD]
  have hm : g.getD k 0 ∈ g := by
    rw [List.getD_eq_getElem?_getD, List.getElem?_eq_getElem hk]
    exact List.getElem_mem _
  refine ⟨List.mem_append_left _ h.has, fun x hx => ?_, fun i hi x hx t => ?_, ?_, ?_⟩
  · rcases List.mem_append.mp hx with h1 | h1
    · exact h.reach x h1
    · obtain ⟨h1, h2⟩ := List.mem_filter.mp h1
      rw [Bool.and_eq_true] at h2
      exact .on (h.reach _ hm) (List.mem_cons_of_mem _ h1) h2.2
  · rw [eg i (by omega)] at t
    by_cases c : i = k
    · subst c
      by_cases m : x ∈ g
      · exact List.mem_append_left _ m
      · refine List.mem_append_right _ (List.mem_filter.mpr ⟨hx, ?_⟩)
        rw [t]
        simp [m]
    · exact List.mem_append_left _ (h.done i (by omega) x hx t)
  · unfold growOn
    rw [List.nodup_append]
    refine ⟨h.nd, ond.filter _, fun x hx y hy e => ?_⟩
    subst e
    have := (List.mem_filter.mp hy).2
    simp [hx] at this
  · unfold growOn
    rw [List.length_append]
    omega
theorem Grown.all {ps : List (Int × Int)} {a : Int} {others g : List Int} (h : Grown ps a others g g.length) {x : Int} : x ∈ g ↔ Rch ps (a :: others) a x := by
  refine ⟨h.reach x, fun r => ?_⟩
  induction r with
  | here _ => exact h.has
  | @on b c _ hc t ih =>
    rcases List.mem_cons.mp hc with e | hc
    · rw [e]
      exact h.has
    · obtain ⟨i, hi, e⟩ := List.mem_iff_getElem.mp ih
      refine h.done i hi c hc ?_
      rw [List.getD_eq_getElem?_getD, List.getElem?_eq_getElem hi, Option.getD_some, e]
      exact t
theorem Grown.sorted {ps : List (Int × Int)} {a : Int} {others g ns : List Int} (h : Grown ps a others g g.length) (lt : (a :: others).Pairwise (· < ·)) (pm : ns.Perm g) (sr : ns.Pairwise (· ≤ ·)) : ns = compOf ps (a :: others) a := by
  have cl : (compOf ps (a :: others) a).Pairwise (· < ·) := lt.filter _
  have nd : (compOf ps (a :: others) a).Nodup := cl.imp fun h => by omega
  refine sorted_eq (pm.trans ((List.perm_ext_iff_of_nodup h.nd nd).mpr fun x => ?_)) sr (cl.imp fun h => by omega)
  rw [h.all, mem_comp]
end DR

set_option Elab.async false
set_option linter.all false
set_option maxRecDepth 100000
set_option maxHeartbeats 4000000
/-! ### a dict of ints, its keys (place, places): an int and a tuple of ints -/
namespace DR
open PySem PySem.Spec PyProof.Rows L2
def nk (k : Int × List Int) : NestedKey := .tup [.num k.1, .tup (k.2.map .num)]
theorem nk_inj {k l : Int × List Int} (h : nk k = nk l) : k = l := by
  unfold nk at h
  injection h with h
  injection h with h1 h2
  injection h1 with h1
  injection h2 with h2 _
  injection h2 with h2
  have key : ∀ a b : List Int, a.map NestedKey.num = b.map NestedKey.num → a = b := by
    intro a
    induction a with
    | nil =>
      intro b e
      cases b with
      | nil => rfl
      | cons _ _ => cases e
    | cons x a ih =>
      intro b e
      cases b with
      | nil => cases e
      | cons y b =>
        injection e with e1 e2
        injection e1 with e1
        rw [e1, ih b e2]
  exact Prod.ext h1 (key _ _ h2)
theorem nk_depth (k : Int × List Int) : (nk k).depth ≤ 8 := by
  have key : ∀ l : List Int, NestedKey.depthAll (l.map .num) = 0 := by
    intro l
    induction l with
    | nil => simp [NestedKey.depthAll]
    | cons x l ih => simp [NestedKey.depthAll, NestedKey.depth, ih]
  simp [nk, NestedKey.depth, NestedKey.depthAll, key]
/-- the dict's object -/
def NestO (P : Program) (w : World) (d : Addr) (L : List (NestedKey × Addr × Value)) : HO := .ext fun h => (d == sysModules) = false ∧ ∃ o es ep, h.get? d = some o ∧ o.ExactDict ∧ o.data = .dict es ep ∧ es.toList = L.map (entryOfKey (nestedKind P w)) ∧ (L.map (·.1)).Nodup
theorem nestO_ok {P : Program} {w : World} {H : Hp} {h : Heap} {d : Addr} {L : List (NestedKey × Addr × Value)} (hd : (d == sysModules) = false) (e : ∃ o es ep, h.get? d = some o ∧ o.ExactDict ∧ o.data = .dict es ep ∧ es.toList = L.map (entryOfKey (nestedKind P w)) ∧ (L.map (·.1)).Nodup) : ObjOk P w H h d (NestO P w d L) := by
  refine ⟨⟨hd, e⟩, ?_, fun h1 h2 ⟨a, o, es, ep, ho, r⟩ st => ⟨a, o, es, ep, st o ho, r⟩⟩
  obtain ⟨o, _, _, ho, _⟩ := e
  exact ⟨o, ho⟩
/-- a key stands at a -/
def KeyAt (H : Hp) (a : Addr) (k : Int × List Int) : Prop := ∃ lt, H a = some (.tup [.int k.1, .ref lt]) ∧ H lt = some (.tup (k.2.map V.int))
theorem KeyAt.same {H H' : Hp} {a : Addr} {k : Int × List Int} (h : KeyAt H a k) (s : ∀ b xs, H b = some (.tup xs) → H' b = some (.tup xs)) : KeyAt H' a k := by
  obtain ⟨lt, e1, e2⟩ := h
  exact ⟨lt, s _ _ e1, s _ _ e2⟩
/-- the dict stands at d: what it holds -/
def MemoAt (P : Program) (w : World) (H : Hp) (d : Addr) (m : List ((Int × List Int) × Int)) : Prop := ∃ L, H d = some (NestO P w d L) ∧ m.length ≤ sizeLine ∧
  Paired (fun (e : (Int × List Int) × Int) (x : NestedKey × Addr × Value) => x.1 = nk e.1 ∧ KeyAt H x.2.1 e.1 ∧ ∃ t, x.2.2 = .int e.2 t) m L
theorem MemoAt.keep {P : Program} {w : World} {H H' : Hp} {d : Addr} {m : List ((Int × List Int) × Int)} (h : MemoAt P w H d m) (kd : H' d = H d) (s : ∀ b xs, H b = some (.tup xs) → H' b = some (.tup xs)) : MemoAt P w H' d m := by
  obtain ⟨L, e, z, p⟩ := h
  exact ⟨L, kd.trans e, z, Paired.mapP p fun a b ⟨h1, h2, h3⟩ => ⟨h1, h2.same s, h3⟩⟩
theorem MemoAt.same {P : Program} {w : World} {H H' : Hp} {d : Addr} {m : List ((Int × List Int) × Int)} (h : MemoAt P w H d m) (s : Same H H') : MemoAt P w H' d m := by
  obtain ⟨L, e, z, p⟩ := h
  exact ⟨L, s _ _ e, z, Paired.mapP p fun a b ⟨h1, h2, h3⟩ => ⟨h1, h2.same fun b xs e => s _ _ e, h3⟩⟩
def valM (m : List ((Int × List Int) × Int)) (k : Int × List Int) : Option Int := (m.find? fun e => decide (e.1 = k)).map (·.2)
theorem valM_nil (k : Int × List Int) : valM [] k = none := rfl
theorem valM_snoc {m : List ((Int × List Int) × Int)} {k : Int × List Int} {v : Int} (h : valM m k = none) : valM (m ++ [(k, v)]) k = some v := by
  unfold valM at h ⊢
  have h := Option.map_eq_none_iff.mp h
  rw [List.find?_append, h]
  simp
theorem valM_mem {m : List ((Int × List Int) × Int)} {k : Int × List Int} {v : Int} (h : valM m k = some v) : (k, v) ∈ m := by
  unfold valM at h
  obtain ⟨e, h1, h2⟩ := Option.map_eq_some_iff.mp h
  have h3 := List.find?_some h1
  have h4 := List.mem_of_find?_eq_some h1
  have : e.1 = k := of_decide_eq_true h3
  subst this
  subst h2
  exact h4
theorem memo_at {P : Program} {w : World} {H : Hp} : ∀ {m : List ((Int × List Int) × Int)} {L : List (NestedKey × Addr × Value)} (k : Int × List Int), Paired (fun (e : (Int × List Int) × Int) (x : NestedKey × Addr × Value) => x.1 = nk e.1 ∧ KeyAt H x.2.1 e.1 ∧ ∃ t, x.2.2 = .int e.2 t) m L →
    (valM m k = none → atKey L (nk k) = none) ∧ ∀ v, valM m k = some v → ∃ p t, atKey L (nk k) = some p ∧ p.2 = .int v t
  | [], _, k, .nil => ⟨fun _ => rfl, fun v h => by cases h⟩
  | e :: m, x :: L, k, .cons r t => by
    obtain ⟨r1, r2, tk, r3⟩ := r
    obtain ⟨ih1, ih2⟩ := memo_at (P := P) (w := w) k t
    by_cases c : e.1 = k
    · have h1 : valM (e :: m) k = some e.2 := by
        unfold valM
        rw [List.find?_cons, decide_eq_true c]
        rfl
      have h2 : atKey (x :: L) (nk k) = some x.2 := by
        unfold atKey
        rw [List.find?_cons, decide_eq_true (by rw [r1, c])]
        rfl
      rw [h1, h2]
      exact ⟨fun z => (by cases z), fun v z => by
        injection z with z
        exact ⟨x.2, tk, rfl, by rw [r3, z]⟩⟩
    · have h1 : valM (e :: m) k = valM m k := by
        unfold valM
        rw [List.find?_cons, decide_eq_false c]
      have h2 : atKey (x :: L) (nk k) = atKey L (nk k) := by
        unfold atKey
        rw [List.find?_cons, decide_eq_false (by rw [r1]; exact fun z => c (nk_inj z))]
      rw [h1, h2]
      exact ⟨ih1, ih2⟩
section
variable {X : Cx} {pins : List (Addr × Obj)} {σ : L2.St} {H : Hp} {s : Shared} {a b d : Addr} {k : Int × List Int}
theorem nums_are {h : Heap} : ∀ {ns : List Int} {vs : List Value}, Vals (ns.map V.int) vs → NestedAll h (ns.map .num) vs
  | [], _, .nil => .nil
  | n :: ns, _, .cons r t => by
    obtain ⟨tk, rfl⟩ := r
    exact .cons (.int n tk) (nums_are t)
theorem nest_key (I : Inv X pins σ H s) (h : KeyAt H b k) : (nestedKind X.prog X.w).is s.heap (nk k) b := by
  obtain ⟨lt, e1, e2⟩ := h
  obtain ⟨its, r, ⟨o, ho, hc, n, hd⟩, _⟩ := I.tuple (SqT.of e1)
  obtain ⟨its2, r2, ⟨o2, ho2, hc2, n2, hd2⟩, _⟩ := I.tuple (SqT.of e2)
  refine ⟨.tup ho hc hd ?_, nk_depth k⟩
  cases r with
  | cons rx rr =>
    cases rr with
    | cons ry rr =>
      cases rr
      cases ry
      obtain ⟨tk, rfl⟩ := rx
      exact .cons (.int _ tk) (.cons (.tup ho2 hc2 hd2 (by simpa using nums_are r2)) .nil)
theorem nest_dict {L : List (NestedKey × Addr × Value)} {m : List ((Int × List Int) × Int)} (I : Inv X pins σ H s) (e : H d = some (NestO X.prog X.w d L)) (p : Paired (fun (e : (Int × List Int) × Int) (x : NestedKey × Addr × Value) => x.1 = nk e.1 ∧ KeyAt H x.2.1 e.1 ∧ ∃ t, x.2.2 = .int e.2 t) m L) :
    (d == sysModules) = false ∧ s.heap.DictOfH (nestedKind X.prog X.w) d L := by
  obtain ⟨⟨hd, o, es, ep, ho, hx, hdat, hes, hn⟩, _, _⟩ := I.hok d _ e
  refine ⟨hd, o, es, ep, ho, hx, hdat, hes, fun x hx' => ?_, hn⟩
  obtain ⟨i, hi⟩ := List.getElem?_of_mem hx'
  have key : ∀ {m : List ((Int × List Int) × Int)} {L : List (NestedKey × Addr × Value)} {i : Nat} {x : NestedKey × Addr × Value}, Paired (fun (e : (Int × List Int) × Int) (x : NestedKey × Addr × Value) => x.1 = nk e.1 ∧ KeyAt H x.2.1 e.1 ∧ ∃ t, x.2.2 = .int e.2 t) m L → L[i]? = some x → ∃ k, x.1 = nk k ∧ KeyAt H x.2.1 k := by
    intro m L i x p
    induction p generalizing i with
    | nil => intro h; simp at h
    | cons r t ih =>
      intro h
      cases i with
      | zero =>
        simp at h
        subst h
        exact ⟨_, r.1, r.2.1⟩
      | succ i => exact ih (by simpa using h)
  obtain ⟨k, e1, e2⟩ := key p hi
  rw [e1]
  exact nest_key I e2
end
section
variable {X : Cx} {pos : Pos}
/-- {} that will hold such keys -/
theorem pe_dnewN : PE X (.Dict [] [] pos) (fun _ H Q => ∀ d, H d = none → Q (.ref d) (L2.upd H d (NestO X.prog X.w d []))) := ⟨fun pins s σ H Q I h =>
  wpAny_Dict_empty ⟨.ref s.heap.objs.size, _, I.laid (a := s.heap.objs.size) (o := NestO X.prog X.w s.heap.objs.size []) (t' := s.toks) (fun _ _ q => Heap.get?_push_of_some _ q) (Nat.le_refl _)
    (nestO_ok (beq_eq_false_iff_ne.mpr (Ne.symm (Nat.ne_of_lt I.big))) ⟨_, #[], 0, Heap.get?_push_size _ rfl, ⟨rfl, rfl, rfl⟩, rfl, rfl, List.nodup_nil⟩), rfl, h _ (I.hok.fresh (Nat.le_refl _))⟩⟩
theorem memo_new {P : Program} {w : World} {H : Hp} {d : Addr} : MemoAt P w (L2.upd H d (NestO P w d [])) d [] := ⟨[], upd_same, Nat.zero_le _, .nil⟩
/-- k not in d -/
def rNestNot (P : Program) (w : World) : R2 := fun x y H Q => ∃ b d k m, x = .ref b ∧ y = .ref d ∧ KeyAt H b k ∧ MemoAt P w H d m ∧ Q (.bl (valM m k).isNone) H
theorem op_nestNot (hu : X.A.units + 20 < cLine) : OpR X (compareOp .NotIn) (rNestNot X.prog X.w) := by
  intro pins s σ H x y v u Q I rx ry h
  obtain ⟨b, d, k, m, rfl, rfl, hb, ⟨L, e, z, p⟩, q⟩ := h
  cases rx
  cases ry
  obtain ⟨hd, dd⟩ := nest_dict I e p
  refine wpAny_notIn_heap (knd := nestedKind X.prog X.w) (show X.A.in1.units + 8 < cLine by show X.A.units + 1 + 8 < cLine; omega) (nest_key I hb) hd dd ?_
  obtain ⟨h1, h2⟩ := memo_at (P := X.prog) (w := X.w) k p
  have e2 : (!(atKey L (nk k)).isSome) = (valM m k).isNone := by
    cases hv : valM m k with
    | none =>
      rw [h1 hv]
      rfl
    | some v =>
      obtain ⟨p, t, h3, _⟩ := h2 v hv
      rw [h3]
      rfl
  rw [e2]
  exact ⟨.bl _, H, I.tok _, rfl, q⟩
/-- d[k], it is there -/
def tNestGet (P : Program) (w : World) (td ty : TE) : TE := fun σ H Q => td σ H fun x H1 => ty σ H1 fun y H2 => ∃ b d k m v, y = .ref b ∧ x = .ref d ∧ KeyAt H2 b k ∧ MemoAt P w H2 d m ∧ valM m k = some v ∧ Q (.int v) H2
theorem pe_nestGet {o i : Expr} {td ty : TE} (hu : X.A.units + 20 < cLine) (ho : PE X o td) (hi : PE X i ty) (hs : NoSl i) : PE X (.Subscript o i pos) (tNestGet X.prog X.w td ty) := by
  refine ⟨fun pins s σ H Q I h => ?_⟩
  refine subD_of PySem.F.slot_dict_getitem.lookup hs (thn (ho.run pins s σ H _ I h) fun u s1 ⟨x, H1, I1, rx, q1⟩ => thn (hi.run pins s1 σ H1 _ I1 q1) fun iv s2 ⟨y, H2, I2, ry, b, d, k, m, v, ey, ex, hb, ⟨L, e, z, p⟩, hv, q2⟩ => ?_)
  subst ex
  subst ey
  obtain rfl : u = Value.ref d := rx
  obtain rfl : iv = Value.ref b := ry
  obtain ⟨hd, dd⟩ := nest_dict I2 e p
  obtain ⟨h1, h2⟩ := memo_at (P := X.prog) (w := X.w) k p
  obtain ⟨pr, t, h3, h4⟩ := h2 v hv
  refine ⟨dd.typeIs, wpAny_getItem_heap (knd := nestedKind X.prog X.w) (show X.A.in1.units + 8 < cLine by show X.A.units + 1 + 8 < cLine; omega) (nest_key I2 hb) dd h3 ?_⟩
  rw [h4]
  exact ⟨.int v, H2, I2.tok _, ⟨t, rfl⟩, q2⟩
/-- d[k] = v, it is not there -/
def rNestSet (P : Program) (w : World) : V → V → V → Hp → (Hp → Prop) → Prop := fun o i v H Q => ∃ b d k m n, o = .ref d ∧ i = .ref b ∧ v = .int n ∧ KeyAt H b k ∧ MemoAt P w H d m ∧ valM m k = none ∧ m.length < sizeLine ∧
  ∀ H', Kp d H H' → MemoAt P w H' d (m ++ [(k, n)]) → Q H'
theorem set_nest (hu : X.A.units + 20 < cLine) : PSet X (rNestSet X.prog X.w) := by
  intro pins s σ H o i v ov iv u Q I ro ri rv h
  obtain ⟨b, d, k, m, n, rfl, rfl, rfl, hb, ⟨L, e, z, p⟩, hv, hz, q⟩ := h
  cases ro
  cases ri
  obtain ⟨t, rfl⟩ := rv
  obtain ⟨hd, dd⟩ := nest_dict I e p
  obtain ⟨h1, _⟩ := memo_at (P := X.prog) (w := X.w) k p
  have hn := h1 hv
  have hl := Paired.length p
  refine wpAny_setItem_heap (knd := nestedKind X.prog X.w) (hsz := by omega) (show X.A.in1.units + 8 < cLine by show X.A.units + 1 + 8 < cLine; omega) (nest_key I hb) dd fun h' dd' hs => ?_
  rw [storedH_new hn] at dd'
  obtain ⟨q', es, ep, hq, h2, h3, h4, h5, h6⟩ := dd'
  have nd : ∀ {c : Addr} {xs : List V}, H c = some (.tup xs) → c ≠ d := fun e' => ne_of e' e (by unfold NestO; intro z; cases z)
  refine ⟨upd H d (NestO X.prog X.w d (L ++ [(nk k, b, .int n t)])), d_write (t' := s.toks + (nestedKind X.prog X.w).draws (nk k)) I (by rw [e]; exact True.intro) hs ⟨q', hq⟩ (nestO_ok hd ⟨q', es, ep, hq, h2, h3, h4, h6⟩), q _ (Kp.put _ _ _) ?_⟩
  refine ⟨_, upd_same, by rw [List.length_append]; exact hz, ?_⟩
  have key : ∀ {m : List ((Int × List Int) × Int)} {L : List (NestedKey × Addr × Value)} {F : (Int × List Int) × Int → NestedKey × Addr × Value → Prop} {e x}, Paired F m L → F e x → Paired F (m ++ [e]) (L ++ [x]) := by
    intro m L F e x p r
    induction p with
    | nil => exact .cons r .nil
    | cons r' t ih => exact .cons r' ih
  refine key (Paired.mapP p fun a x ⟨r1, r2, r3⟩ => ⟨r1, r2.same fun c xs e' => ?_, r3⟩) ⟨rfl, hb.same fun c xs e' => ?_, t, rfl⟩
  · rw [upd_ne (nd e')]
    exact e'
  · rw [upd_ne (nd e')]
    exact e'
end
end DR

set_option Elab.async false
set_option linter.all false
set_option maxRecDepth 100000
set_option maxHeartbeats 4000000
/-! ### a gap whose two places have ties enough can be closed -/
namespace DR
open PySem PySem.Spec PyProof.Rows L2
theorem cp_add {f g h : Int → Bool} : ∀ {l : List Int}, (∀ y ∈ l, f y = (g y || h y)) → (∀ y ∈ l, ¬ (g y = true ∧ h y = true)) → l.countP f = l.countP g + l.countP h
  | [], _, _ => rfl
  | y :: l, e, d => by
    have ih := cp_add (l := l) (fun z hz => e z (List.mem_cons_of_mem _ hz)) (fun z hz => d z (List.mem_cons_of_mem _ hz))
    have e1 := e y List.mem_cons_self
    have d1 := d y List.mem_cons_self
    rw [List.countP_cons, List.countP_cons, List.countP_cons, ih, e1]
    cases hg : g y <;> cases hh : h y <;> simp [hg, hh] at d1 ⊢ <;> omega
theorem cp_one {x : Int} {l : List Int} (hm : x ∈ l) (nd : l.Nodup) : l.countP (fun y => decide (y = x)) = 1 := by
  have h := List.Nodup.count (a := x) nd
  rw [if_pos hm] at h
  rw [← h]
  unfold List.count
  congr 1
theorem cnt_cp {row : List Int} (nd : row.Nodup) (x : Int) : ∀ {ps : List (Int × Int)}, ps.Nodup → (∀ p ∈ ps, p.1 < p.2 ∧ p.1 ∈ row ∧ p.2 ∈ row) → cnt ps x = (row.countP (tied ps x) : Nat)
  | [], _, _ => by
    have e : row.countP (tied [] x) = 0 := by
      rw [List.countP_eq_zero]
      intro y _
      simp [tied]
    rw [e]
    rfl
  | p :: ps, np, hp => by
    obtain ⟨n1, n2⟩ := List.nodup_cons.mp np
    obtain ⟨h1, h2, h3⟩ := hp p List.mem_cons_self
    have ih := cnt_cp nd x n2 fun q hq => hp q (List.mem_cons_of_mem _ hq)
    have e : cnt (p :: ps) x = ((if p.1 = x then 1 else 0) + (if p.2 = x then 1 else 0)) + cnt ps x := by simp [cnt]
    have s1 : row.countP (tied (p :: ps) x) = row.countP (fun y => decide (p.1 = x ∧ y = p.2) || decide (p.2 = x ∧ y = p.1)) + row.countP (tied ps x) := by
      refine cp_add (fun y _ => ?_) (fun y _ ⟨a, b⟩ => ?_)
      · obtain ⟨p1, p2⟩ := p
        rw [Bool.eq_iff_iff]
        unfold tied
        simp only [List.mem_cons, Prod.mk.injEq, Bool.or_eq_true, decide_eq_true_eq]
        constructor
        · rintro ((⟨a, b⟩ | a) | (⟨a, b⟩ | a))
          · exact .inl (.inl ⟨a.symm, b⟩)
          · exact .inr (.inl a)
          · exact .inl (.inr ⟨b.symm, a⟩)
          · exact .inr (.inr a)
        · rintro ((⟨a, b⟩ | ⟨a, b⟩) | (a | a))
          · exact .inl (.inl ⟨a.symm, b⟩)
          · exact .inr (.inl ⟨b, a.symm⟩)
          · exact .inl (.inr a)
          · exact .inr (.inr a)
      · obtain ⟨p1, p2⟩ := p
        unfold tied at b
        simp only [Bool.or_eq_true, decide_eq_true_eq] at a b
        rcases a with ⟨rfl, rfl⟩ | ⟨rfl, rfl⟩ <;> rcases b with b | b
        · exact n1 b
        · have := (hp _ (List.mem_cons_of_mem _ b)).1
          simp at this h1
          omega
        · have := (hp _ (List.mem_cons_of_mem _ b)).1
          simp at this h1
          omega
        · exact n1 b
    have s2 : row.countP (fun y => decide (p.1 = x ∧ y = p.2) || decide (p.2 = x ∧ y = p.1)) = row.countP (fun y => decide (p.1 = x ∧ y = p.2)) + row.countP (fun y => decide (p.2 = x ∧ y = p.1)) := by
      refine cp_add (fun _ _ => rfl) (fun y _ ⟨a, b⟩ => ?_)
      have a := of_decide_eq_true a
      have b := of_decide_eq_true b
      omega
    have s3 : ∀ a b : Int, b ∈ row → row.countP (fun y => decide (a = x ∧ y = b)) = if a = x then 1 else 0 := fun a b hb => by
      by_cases c : a = x
      · rw [if_pos c, ← cp_one hb nd]
        congr 1
        funext y
        simp [c]
      · rw [if_neg c, List.countP_eq_zero]
        intro y _
        simp [c]
    rw [e, ih, s1, s2, s3 _ _ h3, s3 _ _ h2]
    by_cases c1 : p.1 = x <;> by_cases c2 : p.2 = x <;> simp [c1, c2] <;> omega
theorem zip_both {f g : Int → Bool} : ∀ {l1 l2 : List Int}, l1.length = l2.length → l1.length < l1.countP f + l2.countP g → ∃ i, i < l1.length ∧ f (l1.getD i 0) = true ∧ g (l2.getD i 0) = true
  | [], [], _, h => by simp at h
  | [], _ :: _, e, _ => by simp at e
  | _ :: _, [], e, _ => by simp at e
  | x :: l1, y :: l2, e, h => by
    by_cases c : f x = true ∧ g y = true
    · exact ⟨0, by simp, c.1, c.2⟩
    · have ih := zip_both (f := f) (g := g) (l1 := l1) (l2 := l2) (by simpa using e)
      have h2 : l1.length < l1.countP f + l2.countP g := by
        rw [List.countP_cons, List.countP_cons, List.length_cons] at h
        cases hf : f x <;> cases hg : g y <;> simp [hf, hg] at h c <;> omega
      obtain ⟨i, h3, h4, h5⟩ := ih h2
      exact ⟨i + 1, by simpa using h3, by simpa using h4, by simpa using h5⟩
theorem Ties.no_self {n : Nat} {ps : List (Int × Int)} (h : Ties n ps) (x : Int) : tied ps x x = false := by
  unfold tied
  rw [decide_eq_false, Bool.or_self]
  intro z
  have := h.rng _ z
  simp at this
theorem upTo_mem {n : Nat} {x : Int} : x ∈ upTo n ↔ 0 ≤ x ∧ x < n := by
  unfold upTo
  rw [List.mem_map]
  constructor
  · rintro ⟨i, hi, rfl⟩
    have := List.mem_range.mp hi
    omega
  · rintro ⟨h0, h1⟩
    exact ⟨x.toNat, List.mem_range.mpr (by omega), by omega⟩
theorem ore1 {n : Nat} {ps : List (Int × Int)} {os : List Int} (ti : Ties n ps) (n3 : 3 ≤ n) (io : IsOrd n os) {a : Nat} (ha : a < n) (g : gapAt ps os a = true) (hs : (n : Int) ≤ cnt ps (os.getD a 0) + cnt ps ((os ++ os).getD (a + 1) 0)) : leastBack ps os a ≠ none := by
  have hl := io.len
  have lrow := rowAt_len os (a := a) (by omega)
  have pr : (rowAt os a).Perm (upTo n) := (rowAt_perm os a).trans io
  have g1 : tied ps ((rowAt os a).getD 0 0) ((rowAt os a).getD (os.length - 1) 0) = false := by
    unfold gapAt at g
    rw [rowAt_first os (by omega), rowAt_last os (by omega), tied_comm]
    cases h : tied ps (os.getD a 0) ((os ++ os).getD (a + 1) 0) with
    | false => rfl
    | true =>
      rw [h] at g
      cases g
  intro hn
  have hno : ∀ j < os.length - 2, closes ps os a (j + 1) = false := fun j hj => by
    cases h : closes ps os a (j + 1) with
    | false => rfl
    | true =>
      unfold leastBack at hn
      rw [List.find?_eq_none] at hn
      exact absurd h (hn (j + 1) (List.mem_map.mpr ⟨j, List.mem_range.mpr hj, rfl⟩))
  unfold closes at hno
  rw [← rowAt_first os (by omega), ← rowAt_last os (by omega)] at hs
  rw [hl] at hno g1 hs
  rw [hl] at lrow
  generalize rowAt os a = row at *
  clear hn g io hl ha
  have nd : row.Nodup := pr.nodup_iff.mpr (upTo_nodup n)
  have mem : ∀ x : Int, 0 ≤ x → x < n → x ∈ row := fun x h0 h1 => pr.mem_iff.mpr (upTo_mem.mpr ⟨h0, h1⟩)
  have rng : ∀ x ∈ row, 0 ≤ x ∧ x < n := fun x hx => upTo_mem.mp (pr.mem_iff.mp hx)
  have hcnt : ∀ x, cnt ps x = (row.countP (tied ps x) : Nat) := fun x => cnt_cp nd x ti.nd fun p hp => by
    have b := ti.bound hp
    have := ti.rng p hp
    exact ⟨this.2.1, mem _ b.1 b.2.1, mem _ b.2.2.1 b.2.2.2⟩
  -- the first
  obtain ⟨x, rest, rfl⟩ : ∃ x rest, row = x :: rest := by
    cases row with
    | nil => simp at lrow; omega
    | cons x r => exact ⟨x, r, rfl⟩
  have hw : (x :: rest).getD (n - 1) 0 ∈ (x :: rest) := by
    rw [List.getD_eq_getElem?_getD, List.getElem?_eq_getElem (by omega)]
    exact List.getElem_mem _
  have ewi : x :: rest = (x :: rest).dropLast ++ [(x :: rest).getD (n - 1) 0] := by
    have := (List.dropLast_concat_getLast (List.cons_ne_nil x rest)).symm
    rw [List.getLast_eq_getElem] at this
    rw [List.getD_eq_getElem?_getD, List.getElem?_eq_getElem (by omega)]
    have e : (x :: rest).length - 1 = n - 1 := by omega
    simp only [e] at this
    exact this
  have g1' : tied ps x ((x :: rest).getD (n - 1) 0) = false := g1
  have hs' : (n : Int) ≤ cnt ps ((x :: rest).getD (n - 1) 0) + cnt ps x := hs
  generalize hwd : (x :: rest).getD (n - 1) 0 = w at *
  have sum : (n : Int) ≤ cnt ps x + cnt ps w := by omega
  rw [hcnt, hcnt] at sum
  have c1 : (x :: rest).countP (tied ps x) = rest.countP (tied ps x) := by
    rw [List.countP_cons, ti.no_self x]
    simp
  have c2 : (x :: rest).countP (tied ps w) = (x :: rest).dropLast.countP (tied ps w) := by
    conv => lhs; rw [ewi]
    rw [List.countP_append, List.countP_cons, ti.no_self w]
    simp
  have l1 : rest.length = n - 1 := by
    rw [List.length_cons] at lrow
    omega
  have l2 : (x :: rest).dropLast.length = n - 1 := by
    rw [List.length_dropLast, lrow]
  obtain ⟨i, hi, h1, h2⟩ := zip_both (f := tied ps x) (g := tied ps w) (l1 := rest) (l2 := (x :: rest).dropLast) (by omega) (by omega)
  have e1 : rest.getD i 0 = (x :: rest).getD (i + 1) 0 := by simp
  have e2 : (x :: rest).dropLast.getD i 0 = (x :: rest).getD i 0 := by
    simp only [List.getD_eq_getElem?_getD]
    conv => rhs; rw [ewi]
    rw [List.getElem?_append_left (by omega)]
  rw [e1] at h1
  rw [e2] at h2
  cases i with
  | zero =>
    have : tied ps w x = true := h2
    rw [tied_comm, g1'] at this
    cases this
  | succ j =>
    by_cases c : j + 1 + 1 = n - 1
    · rw [c, hwd, g1'] at h1
      cases h1
    · have := hno j (by omega)
      rw [show (x :: rest).getD 0 0 = x from rfl, h1] at this
      rw [h2] at this
      cases this
end DR

set_option Elab.async false
set_option linter.all false
set_option maxRecDepth 100000
set_option maxHeartbeats 4000000
/-! ### rounds, row by row -/
namespace DR
open PySem PySem.Spec PyProof.Rows L2
def lastOf (row : List Int) : Int := row.getD (row.length - 1) 0
def goesOn (ps : List (Int × Int)) (row : List Int) (x : Int) : Bool := !decide (x ∈ row) && tied ps (lastOf row) x
def nexts (n : Nat) (ps : List (Int × Int)) (row : List Int) : List (List Int) := ((upTo n).filter (goesOn ps row)).map fun x => row ++ [x]
def rowsOf (n : Nat) (ps : List (Int × Int)) : Nat → List (List Int)
  | 0 => [[0]]
  | k + 1 => (rowsOf n ps k).flatMap (nexts n ps)
def isTour (n : Nat) (ps : List (Int × Int)) (row : List Int) : Bool := decide (2 < n) && (decide (row.getD 1 0 < lastOf row) && tied ps (lastOf row) 0)
def roundsOf (n : Nat) (ps : List (Int × Int)) : List (List Int) := (rowsOf n ps (n - 1)).filter (isTour n ps)
theorem upTo_succ (i : Nat) : upTo (i + 1) = upTo i ++ [(i : Int)] := by
  unfold upTo
  rw [List.range_succ, List.map_append]
  rfl
theorem row_ok {n : Nat} (n1 : 1 ≤ n) (ps : List (Int × Int)) : ∀ (k : Nat) (row : List Int), row ∈ rowsOf n ps k → row.length = k + 1 ∧ row.Nodup ∧ (∀ x ∈ row, 0 ≤ x ∧ x < n)
  | 0, row, h => by
    have e : row = [0] := by simpa [rowsOf] using h
    subst e
    exact ⟨rfl, by simp, fun x hx => by rw [List.mem_singleton.mp hx]; omega⟩
  | k + 1, row, h => by
    unfold rowsOf at h
    obtain ⟨r, hr, hx⟩ := List.mem_flatMap.mp h
    obtain ⟨x, hxf, rfl⟩ := List.mem_map.mp hx
    obtain ⟨hu, hg⟩ := List.mem_filter.mp hxf
    obtain ⟨h1, h2, h3⟩ := row_ok n1 ps k r hr
    have hx0 := upTo_mem.mp hu
    unfold goesOn at hg
    have hnx : x ∉ r := by
      intro z
      simp [z] at hg
    refine ⟨by rw [List.length_append, h1]; rfl, ?_, fun y hy => ?_⟩
    · rw [List.nodup_append]
      refine ⟨h2, by simp, fun a ha b hb e => ?_⟩
      rw [List.mem_singleton.mp hb] at e
      exact hnx (e ▸ ha)
    · rcases List.mem_append.mp hy with z | z
      · exact h3 y z
      · rw [List.mem_singleton.mp z]
        exact hx0
theorem ord_of {n : Nat} {row : List Int} (h1 : row.length = n) (h2 : row.Nodup) (h3 : ∀ x ∈ row, 0 ≤ x ∧ x < n) : IsOrd n row := by
  have sub : ∀ x ∈ row, x ∈ upTo n := fun x hx => upTo_mem.mpr (h3 x hx)
  refine (List.perm_ext_iff_of_nodup h2 (upTo_nodup n)).mpr fun x => ⟨sub x, fun hx => ?_⟩
  by_cases m : x ∈ row
  · exact m
  · have l := nodup_le (x :: row) (upTo n) (List.nodup_cons.mpr ⟨m, h2⟩) fun y hy => by
      rcases List.mem_cons.mp hy with e | e
      · rw [e]
        exact hx
      · exact sub y e
    rw [upTo_len, List.length_cons] at l
    omega
theorem rounds_ord {n : Nat} (n1 : 1 ≤ n) {ps : List (Int × Int)} {row : List Int} (h : row ∈ roundsOf n ps) : IsOrd n row := by
  obtain ⟨h1, h2, h3⟩ := row_ok n1 ps (n - 1) row (List.mem_filter.mp h).1
  exact ord_of (by omega) h2 h3
theorem rows_few {n : Nat} (ps : List (Int × Int)) : ∀ k, (rowsOf n ps k).length ≤ n ^ k
  | 0 => Nat.le_refl _
  | k + 1 => by
    unfold rowsOf
    rw [List.length_flatMap]
    have ih := rows_few (n := n) ps k
    have h : ∀ l : List (List Int), (l.map fun r => (nexts n ps r).length).sum ≤ l.length * n := by
      intro l
      induction l with
      | nil => simp
      | cons r l ih =>
        rw [List.map_cons, List.sum_cons, List.length_cons, Nat.succ_mul]
        have : (nexts n ps r).length ≤ n := by
          unfold nexts
          rw [List.length_map]
          exact Nat.le_trans (List.length_filter_le _ _) (by rw [upTo_len]; exact Nat.le_refl _)
        omega
    refine Nat.le_trans (h _) ?_
    rw [Nat.pow_succ]
    exact Nat.mul_le_mul_right n ih
theorem rows_few7 {n : Nat} (h : n ≤ 7) (ps : List (Int × Int)) {k : Nat} (hk : k < n) : (rowsOf n ps k).length ≤ 16000000 := by
  refine Nat.le_trans (rows_few ps k) (Nat.le_trans (Nat.pow_le_pow_left h k) ?_)
  refine Nat.le_trans (Nat.pow_le_pow_right (n := 7) (by omega) (show k ≤ 7 by omega)) ?_
  decide
end DR

set_option Elab.async false
set_option linter.all false
set_option maxRecDepth 100000
set_option maxHeartbeats 4000000
namespace DR
open PySem PySem.Spec PyProof.Rows L2
theorem filt_split {α : Type} (f : α → Bool) : ∀ l : List α, (l.filter f).length + (l.filter fun a => !f a).length = l.length
  | [] => rfl
  | a :: l => by
    have ih := filt_split f l
    rw [List.filter_cons, List.filter_cons, List.length_cons]
    cases h : f a with
    | true => simp; omega
    | false => simp; omega
end DR

set_option Elab.async false
set_option linter.all false
set_option maxRecDepth 100000
set_option maxHeartbeats 4000000
/-! ### ways home, and rounds -/
namespace DR
open PySem PySem.Spec PyProof.Rows L2
def waysOf (ps : List (Int × Int)) : Nat → Int → List Int → Nat
  | 0, p, _ => if tied ps p 0 = true then 1 else 0
  | k + 1, p, left => ((left.filter (tied ps p)).map fun x => waysOf ps k x (left.filter fun y => decide (y ≠ x))).sum
def extGo (n : Nat) (ps : List (Int × Int)) : Nat → List (List Int) → List (List Int)
  | 0, rs => rs
  | k + 1, rs => extGo n ps k (rs.flatMap (nexts n ps))
theorem extGo_app (n : Nat) (ps : List (Int × Int)) : ∀ (k : Nat) (rs qs : List (List Int)), extGo n ps k (rs ++ qs) = extGo n ps k rs ++ extGo n ps k qs
  | 0, _, _ => rfl
  | k + 1, rs, qs => by
    show extGo n ps k ((rs ++ qs).flatMap (nexts n ps)) = _
    rw [List.flatMap_append, extGo_app n ps k]
    rfl
theorem extGo_nil (n : Nat) (ps : List (Int × Int)) : ∀ k, extGo n ps k [] = []
  | 0 => rfl
  | k + 1 => extGo_nil n ps k
theorem extGo_flat (n : Nat) (ps : List (Int × Int)) (k : Nat) : ∀ rs : List (List Int), extGo n ps k rs = rs.flatMap fun r => extGo n ps k [r]
  | [] => extGo_nil n ps k
  | r :: rs => by
    rw [show r :: rs = [r] ++ rs from rfl, extGo_app, extGo_flat n ps k rs, List.flatMap_append]
    simp
theorem extGo_snoc (n : Nat) (ps : List (Int × Int)) : ∀ (k : Nat) (rs : List (List Int)), extGo n ps (k + 1) rs = (extGo n ps k rs).flatMap (nexts n ps)
  | 0, _ => rfl
  | k + 1, rs => by
    show extGo n ps (k + 1) (rs.flatMap (nexts n ps)) = _
    rw [extGo_snoc n ps k]
    rfl
theorem rows_ext (n : Nat) (ps : List (Int × Int)) : ∀ k, rowsOf n ps k = extGo n ps k [[0]]
  | 0 => rfl
  | k + 1 => by
    rw [extGo_snoc, ← rows_ext n ps k]
    rfl
def restOf (n : Nat) (row : List Int) : List Int := (upTo n).filter fun x => !decide (x ∈ row)
theorem rest_snoc (n : Nat) (row : List Int) (x : Int) : restOf n (row ++ [x]) = (restOf n row).filter fun y => decide (y ≠ x) := by
  unfold restOf
  rw [List.filter_filter]
  refine List.filter_congr fun y _ => ?_
  by_cases h : y = x
  · subst h
    simp
  · simp [h]
theorem goes_rest (n : Nat) (ps : List (Int × Int)) (row : List Int) : (upTo n).filter (goesOn ps row) = (restOf n row).filter (tied ps (lastOf row)) := by
  unfold restOf goesOn
  rw [List.filter_filter]
  refine List.filter_congr fun y _ => ?_
  rw [Bool.and_comm]
theorem lastOf_snoc (row : List Int) (x : Int) : lastOf (row ++ [x]) = x := by
  unfold lastOf
  simp
theorem len_filter_flat {α β : Type} (f : β → Bool) (g : α → List β) : ∀ l : List α, ((l.flatMap g).filter f).length = (l.map fun a => ((g a).filter f).length).sum
  | [] => rfl
  | a :: l => by
    rw [List.flatMap_cons, List.filter_append, List.length_append, len_filter_flat f g l, List.map_cons, List.sum_cons]
theorem rest_len_snoc {n : Nat} {row : List Int} {x : Int} (h : x ∈ restOf n row) : (restOf n (row ++ [x])).length + 1 = (restOf n row).length := by
  rw [rest_snoc]
  have nd : (restOf n row).Nodup := (upTo_nodup n).filter _
  have e : (restOf n row).filter (fun y => decide (y ≠ x)) = (restOf n row).erase x := by
    rw [nd.erase_eq_filter]
    refine List.filter_congr fun y _ => ?_
    by_cases c : y = x <;> simp [c]
  rw [e, List.length_erase_of_mem h]
  have := List.length_pos_of_mem h
  omega
theorem ways_ext (n : Nat) (ps : List (Int × Int)) : ∀ (k : Nat) (row : List Int), (restOf n row).length = k → ((extGo n ps k [row]).filter fun r => tied ps (lastOf r) 0).length = waysOf ps k (lastOf row) (restOf n row)
  | 0, row, _ => by
    show ([row].filter _).length = _
    unfold waysOf
    cases h : tied ps (lastOf row) 0 <;> simp [h]
  | k + 1, row, hk => by
    show ((extGo n ps k ([row].flatMap (nexts n ps))).filter _).length = _
    have e : [row].flatMap (nexts n ps) = nexts n ps row := by simp
    rw [e, extGo_flat, len_filter_flat]
    unfold nexts
    rw [goes_rest, List.map_map]
    unfold waysOf
    congr 1
    refine List.map_congr_left fun x hx => ?_
    have hx2 := (List.mem_filter.mp hx).1
    have := rest_len_snoc hx2
    show ((extGo n ps k [row ++ [x]]).filter _).length = _
    rw [ways_ext n ps k (row ++ [x]) (by omega), lastOf_snoc, rest_snoc]
def toursOf (n : Nat) (ps : List (Int × Int)) : List (List Int) := (rowsOf n ps (n - 1)).filter fun r => tied ps (lastOf r) 0
theorem rest_zero {n : Nat} (n1 : 1 ≤ n) : restOf n [0] = (upTo n).drop 1 ∧ (restOf n [0]).length = n - 1 := by
  obtain ⟨m, rfl⟩ : ∃ m, n = m + 1 := ⟨n - 1, by omega⟩
  have e : upTo (m + 1) = 0 :: (List.range m).map fun i : Nat => ((i : Int) + 1) := by
    unfold upTo
    rw [List.range_succ_eq_map, List.map_cons, List.map_map]
    congr 1
  have h : restOf (m + 1) [0] = (List.range m).map fun i : Nat => ((i : Int) + 1) := by
    unfold restOf
    rw [e, List.filter_cons]
    simp only [List.mem_singleton, decide_true, Bool.not_true, Bool.false_eq_true, if_false]
    rw [List.filter_eq_self]
    intro x hx
    obtain ⟨i, _, rfl⟩ := List.mem_map.mp hx
    have : ¬ ((i : Int) + 1 = 0) := by omega
    simp [this]
  rw [h, e]
  exact ⟨rfl, by simp⟩
theorem ways_tours {n : Nat} (n1 : 1 ≤ n) (ps : List (Int × Int)) : waysOf ps (n - 1) 0 ((upTo n).drop 1) = (toursOf n ps).length := by
  obtain ⟨h1, h2⟩ := rest_zero n1
  have := ways_ext n ps (n - 1) [0] h2
  unfold toursOf
  rw [rows_ext, this, h1]
  rfl
/-! #### what a row is -/
theorem last_at {row : List Int} (h : row ≠ []) : row.getLast? = some (lastOf row) := by
  have hp : 0 < row.length := List.length_pos_iff.mpr h
  rw [List.getLast?_eq_getElem?]
  unfold lastOf
  rw [List.getD_eq_getElem?_getD, List.getElem?_eq_getElem (by omega)]
  rfl
theorem snoc_of {row : List Int} (h : row ≠ []) : row = row.dropLast ++ [lastOf row] := by
  have h1 := last_at h
  have h2 := (List.dropLast_concat_getLast h).symm
  rw [List.getLast?_eq_some_getLast h] at h1
  have h1 := Option.some.inj h1
  rw [h1] at h2
  exact h2
theorem pg_snoc1 (ps : List (Int × Int)) {A : List Int} (h : A ≠ []) (y : Int) : pg ps (A ++ [y]) = pg ps A + gp1 ps (lastOf A) y := by
  have e := snoc_of h
  conv => lhs; rw [e]
  rw [List.append_assoc, show [lastOf A] ++ [y] = [lastOf A, y] from rfl, pg_snoc, ← e]
theorem gp1_zero {ps : List (Int × Int)} {x y : Int} : gp1 ps x y = 0 ↔ tied ps x y = true := by
  unfold gp1
  by_cases h : tied ps x y = true <;> simp [h]
theorem mem_rows {n : Nat} (n1 : 1 ≤ n) (ps : List (Int × Int)) : ∀ (k : Nat) (row : List Int), row ∈ rowsOf n ps k ↔ row.length = k + 1 ∧ row.Nodup ∧ (∀ x ∈ row, 0 ≤ x ∧ x < n) ∧ row.head? = some 0 ∧ pg ps row = 0
  | 0, row => by
    constructor
    · intro h
      have e : row = [0] := by simpa [rowsOf] using h
      subst e
      exact ⟨rfl, by simp, (fun x hx => by rw [List.mem_singleton.mp hx]; omega), rfl, rfl⟩
    · rintro ⟨h1, _, _, h4, _⟩
      match row, h1, h4 with
      | [x], _, h4 =>
        simp at h4
        subst h4
        simp [rowsOf]
  | k + 1, row => by
    constructor
    · intro h
      unfold rowsOf at h
      obtain ⟨r, hr, hx⟩ := List.mem_flatMap.mp h
      obtain ⟨x, hxf, rfl⟩ := List.mem_map.mp hx
      obtain ⟨hu, hg⟩ := List.mem_filter.mp hxf
      obtain ⟨h1, h2, h3, h4, h5⟩ := (mem_rows n1 ps k r).mp hr
      have hx0 := upTo_mem.mp hu
      unfold goesOn at hg
      have hne : r ≠ [] := fun z => by
        rw [z] at h1
        cases h1
      have hnx : x ∉ r := by
        intro z
        simp [z] at hg
      have ht : tied ps (lastOf r) x = true := by
        simp only [Bool.and_eq_true] at hg
        exact hg.2
      refine ⟨by rw [List.length_append, h1]; rfl, ?_, fun y hy => ?_, ?_, ?_⟩
      · rw [List.nodup_append]
        refine ⟨h2, by simp, fun a ha b hb e => ?_⟩
        rw [List.mem_singleton.mp hb] at e
        exact hnx (e ▸ ha)
      · rcases List.mem_append.mp hy with z | z
        · exact h3 y z
        · rw [List.mem_singleton.mp z]
          exact hx0
      · rw [List.head?_append, h4]
        rfl
      · rw [pg_snoc1 ps hne, h5, gp1_zero.mpr ht]
    · rintro ⟨h1, h2, h3, h4, h5⟩
      have hne : row ≠ [] := fun z => by
        rw [z] at h1
        cases h1
      have e := snoc_of hne
      have hl : row.dropLast.length = k + 1 := by
        rw [List.length_dropLast, h1]
        rfl
      have hdn : row.dropLast ≠ [] := fun z => by
        rw [z] at hl
        cases hl
      rw [e] at h2 h3 h5 h4
      rw [pg_snoc1 ps hdn] at h5
      obtain ⟨n2, _, n4⟩ := List.nodup_append.mp h2
      have hh : row.dropLast.head? = some 0 := by
        cases hd : row.dropLast with
        | nil => exact absurd hd hdn
        | cons a r =>
          rw [hd] at h4
          exact h4
      unfold rowsOf
      refine List.mem_flatMap.mpr ⟨row.dropLast, (mem_rows n1 ps k _).mpr ⟨hl, n2, fun x hx => h3 x (List.mem_append_left _ hx), hh, by omega⟩, ?_⟩
      refine List.mem_map.mpr ⟨lastOf row, List.mem_filter.mpr ⟨upTo_mem.mpr (h3 _ (List.mem_append_right _ List.mem_cons_self)), ?_⟩, e.symm⟩
      unfold goesOn
      have : lastOf row ∉ row.dropLast := fun z => n4 _ z _ List.mem_cons_self rfl
      rw [decide_eq_false this, gp1_zero.mp (by omega)]
      rfl
/-- a tour: an order that begins with 0 and goes by ties, and back -/
def IsTour (n : Nat) (ps : List (Int × Int)) (row : List Int) : Prop := IsOrd n row ∧ row.head? = some 0 ∧ cyc ps row = 0
theorem cyc_head {ps : List (Int × Int)} {row : List Int} (h : row.head? = some 0) : cyc ps row = pg ps row + gp1 ps (lastOf row) 0 := by
  have hne : row ≠ [] := fun z => by
    rw [z] at h
    cases h
  have e : row.take 1 = [0] := by
    cases row with
    | nil => cases h
    | cons a r =>
      simp at h
      subst h
      rfl
  unfold cyc
  rw [e, pg_snoc1 ps hne]
theorem mem_tours {n : Nat} (n1 : 1 ≤ n) {ps : List (Int × Int)} {row : List Int} : row ∈ toursOf n ps ↔ IsTour n ps row := by
  unfold toursOf IsTour
  rw [List.mem_filter, mem_rows n1]
  constructor
  · rintro ⟨⟨h1, h2, h3, h4, h5⟩, h6⟩
    refine ⟨ord_of (by omega) h2 h3, h4, ?_⟩
    rw [cyc_head h4, h5, gp1_zero.mpr h6]
  · rintro ⟨h1, h2, h3⟩
    rw [cyc_head h2] at h3
    have hl := h1.len
    refine ⟨⟨by omega, h1.nodup_iff.mpr (upTo_nodup n), fun x hx => upTo_mem.mp (h1.mem_iff.mp hx), h2, by omega⟩, gp1_zero.mp (by omega)⟩
theorem nodup_flat {α β : Type} (g : α → List β) : ∀ {l : List α}, l.Nodup → (∀ a ∈ l, (g a).Nodup) → (∀ a ∈ l, ∀ b ∈ l, ∀ x, x ∈ g a → x ∈ g b → a = b) → (l.flatMap g).Nodup
  | [], _, _, _ => by simp
  | a :: l, h1, h2, h3 => by
    obtain ⟨n1, n2⟩ := List.nodup_cons.mp h1
    rw [List.flatMap_cons, List.nodup_append]
    refine ⟨h2 a List.mem_cons_self, nodup_flat g n2 (fun b hb => h2 b (List.mem_cons_of_mem _ hb)) (fun b hb c hc => h3 b (List.mem_cons_of_mem _ hb) c (List.mem_cons_of_mem _ hc)), fun x hx y hy e => ?_⟩
    subst e
    obtain ⟨b, hb, hxb⟩ := List.mem_flatMap.mp hy
    have := h3 a List.mem_cons_self b (List.mem_cons_of_mem _ hb) x hx hxb
    exact n1 (this ▸ hb)
theorem rows_nodup (n : Nat) (ps : List (Int × Int)) : ∀ k, (rowsOf n ps k).Nodup
  | 0 => by simp [rowsOf]
  | k + 1 => by
    unfold rowsOf
    refine nodup_flat _ (rows_nodup n ps k) (fun r _ => ?_) fun a _ b _ x hx hy => ?_
    · unfold nexts
      refine List.Pairwise.map _ (fun u v h e => h ?_) ((upTo_nodup n).filter _)
      exact (List.cons.inj (List.append_cancel_left e)).1
    · obtain ⟨u, _, rfl⟩ := List.mem_map.mp hx
      obtain ⟨v, _, e⟩ := List.mem_map.mp hy
      exact ((List.append_inj' e rfl).1).symm
theorem tours_nodup (n : Nat) (ps : List (Int × Int)) : (toursOf n ps).Nodup := (rows_nodup n ps _).filter _
theorem map_nodup {α β : Type} {f : α → β} : ∀ {l : List α}, l.Nodup → (∀ a ∈ l, ∀ b ∈ l, f a = f b → a = b) → (l.map f).Nodup
  | [], _, _ => by simp
  | a :: l, h1, h2 => by
    obtain ⟨n1, n2⟩ := List.nodup_cons.mp h1
    rw [List.map_cons, List.nodup_cons]
    refine ⟨fun h => ?_, map_nodup n2 fun b hb c hc => h2 b (List.mem_cons_of_mem _ hb) c (List.mem_cons_of_mem _ hc)⟩
    obtain ⟨b, hb, e⟩ := List.mem_map.mp h
    exact n1 ((h2 b (List.mem_cons_of_mem _ hb) a List.mem_cons_self e) ▸ hb)
/-! #### turned round -/
def revT : List Int → List Int
  | [] => []
  | a :: t => a :: t.reverse
theorem revT_revT (row : List Int) : revT (revT row) = row := by
  cases row with
  | nil => rfl
  | cons a t => simp [revT]
theorem revT_tour {n : Nat} {ps : List (Int × Int)} {row : List Int} (h : IsTour n ps row) : IsTour n ps (revT row) := by
  obtain ⟨h1, h2, h3⟩ := h
  cases row with
  | nil => cases h2
  | cons a t =>
    simp at h2
    subst h2
    refine ⟨List.Perm.trans ((List.reverse_perm t).cons 0) h1, rfl, ?_⟩
    have e : pg ps (0 :: t.reverse ++ [0]) = pg ps (0 :: t ++ [0]) := by
      rw [← pg_rev ps (0 :: t ++ [0])]
      simp
    show pg ps (0 :: t.reverse ++ [0]) = 0
    rw [e]
    exact h3
theorem revT_ends {row : List Int} (h : 3 ≤ row.length) : (revT row).getD 1 0 = lastOf row ∧ lastOf (revT row) = row.getD 1 0 := by
  match row, h with
  | a :: b :: c :: t, _ =>
    have e1 : lastOf (a :: b :: c :: t) = (c :: t).getLast (by simp) := by
      have := last_at (row := a :: b :: c :: t) (by simp)
      rw [List.getLast?_eq_some_getLast (by simp)] at this
      have := Option.some.inj this
      rw [← this]
      simp
    constructor
    · rw [e1]
      show ((b :: c :: t).reverse).getD 0 0 = _
      rw [List.getD_eq_getElem?_getD, ← List.head?_eq_getElem?, List.head?_reverse, List.getLast?_eq_some_getLast (by simp)]
      simp
    · show lastOf (a :: (b :: c :: t).reverse) = b
      have e2 : a :: (b :: c :: t).reverse = (a :: (c :: t).reverse) ++ [b] := by simp
      rw [e2, lastOf_snoc]
theorem tours_two {n : Nat} (n3 : 3 ≤ n) (ps : List (Int × Int)) : (toursOf n ps).length = 2 * (roundsOf n ps).length := by
  have n1 : 1 ≤ n := by omega
  have er : roundsOf n ps = (toursOf n ps).filter fun r => decide (r.getD 1 0 < lastOf r) := by
    unfold roundsOf toursOf
    rw [List.filter_filter]
    refine List.filter_congr fun r _ => ?_
    unfold isTour
    rw [decide_eq_true (show 2 < n by omega)]
    rfl
  have hlen : ∀ r ∈ toursOf n ps, r.length = n := fun r hr => ((mem_tours n1).mp hr).1.len
  have hne : ∀ r ∈ toursOf n ps, r.getD 1 0 ≠ lastOf r := fun r hr e => by
    have hl := hlen r hr
    have nd : r.Nodup := ((mem_tours n1).mp hr).1.nodup_iff.mpr (upTo_nodup n)
    unfold lastOf at e
    rw [List.getD_eq_getElem?_getD, List.getD_eq_getElem?_getD, List.getElem?_eq_getElem (by omega), List.getElem?_eq_getElem (by omega)] at e
    have e : r[1] = r[r.length - 1] := e
    have := (List.getElem_inj nd).mp e
    omega
  have split := filt_split (fun r : List Int => decide (r.getD 1 0 < lastOf r)) (toursOf n ps)
  have inj : ∀ (l : List (List Int)), ∀ a ∈ l, ∀ b ∈ l, revT a = revT b → a = b := fun l a _ b _ e => by
    rw [← revT_revT a, e, revT_revT]
  have le1 : ((toursOf n ps).filter fun r => decide (r.getD 1 0 < lastOf r)).length ≤ ((toursOf n ps).filter fun r => !decide (r.getD 1 0 < lastOf r)).length := by
    rw [← List.length_map (f := revT)]
    refine nodup_le _ _ (map_nodup ((tours_nodup n ps).filter _) (inj _)) fun x hx => ?_
    obtain ⟨r, hr, rfl⟩ := List.mem_map.mp hx
    obtain ⟨h1, h2⟩ := List.mem_filter.mp hr
    have hl := hlen r h1
    obtain ⟨e1, e2⟩ := revT_ends (row := r) (by omega)
    refine List.mem_filter.mpr ⟨(mem_tours n1).mpr (revT_tour ((mem_tours n1).mp h1)), ?_⟩
    rw [e1, e2]
    have := of_decide_eq_true h2
    rw [decide_eq_false (by omega)]
    rfl
  have le2 : ((toursOf n ps).filter fun r => !decide (r.getD 1 0 < lastOf r)).length ≤ ((toursOf n ps).filter fun r => decide (r.getD 1 0 < lastOf r)).length := by
    rw [← List.length_map (f := revT)]
    refine nodup_le _ _ (map_nodup ((tours_nodup n ps).filter _) (inj _)) fun x hx => ?_
    obtain ⟨r, hr, rfl⟩ := List.mem_map.mp hx
    obtain ⟨h1, h2⟩ := List.mem_filter.mp hr
    have hl := hlen r h1
    obtain ⟨e1, e2⟩ := revT_ends (row := r) (by omega)
    refine List.mem_filter.mpr ⟨(mem_tours n1).mpr (revT_tour ((mem_tours n1).mp h1)), ?_⟩
    rw [e1, e2]
    have h3 := hne r h1
    have h4 : ¬ r.getD 1 0 < lastOf r := by simpa using h2
    exact decide_eq_true (by omega)
  rw [er]
  omega
/-- how many rounds there are -/
def countedOf (n : Nat) (ps : List (Int × Int)) : Nat := if n < 3 then 0 else waysOf ps (n - 1) 0 ((upTo n).drop 1) / 2
theorem counted_rounds {n : Nat} (n1 : 1 ≤ n) (ps : List (Int × Int)) : countedOf n ps = (roundsOf n ps).length := by
  unfold countedOf
  by_cases c : n < 3
  · rw [if_pos c]
    unfold roundsOf
    rw [List.filter_eq_nil_iff.mpr]
    · rfl
    · intro r _
      unfold isTour
      rw [decide_eq_false (by omega)]
      exact Bool.false_ne_true
  · rw [if_neg c, ways_tours n1, tours_two (by omega)]
    omega
theorem counted_tours {n : Nat} (n1 : 1 ≤ n) (ps : List (Int × Int)) : countedOf n ps = if n < 3 then 0 else (toursOf n ps).length / 2 := by
  unfold countedOf
  rw [ways_tours n1]
/-! #### other names -/
def rot0 (l : List Int) : List Int := l.drop (l.idxOf 0) ++ l.take (l.idxOf 0)
theorem rot0_perm (l : List Int) : (rot0 l).Perm l := by
  unfold rot0
  refine List.perm_append_comm.trans ?_
  rw [List.take_append_drop]
theorem rot0_head {l : List Int} (h : 0 ∈ l) : (rot0 l).head? = some 0 := by
  unfold rot0
  have hi := List.idxOf_lt_length_of_mem h
  rw [List.drop_eq_getElem_cons hi]
  simp
theorem rot0_cyc (ps : List (Int × Int)) (l : List Int) : cyc ps (rot0 l) = cyc ps l := by
  unfold rot0
  rw [cyc_rot, List.take_append_drop]
/-- two turned so that 0 is ahead, each beginning with the same: the same -/
theorem rot_same {A B A' B' : List Int} {x : Int} (nd : (A ++ B).Nodup) (e : B ++ A = B' ++ A') (h1 : (A ++ B).head? = some x) (h2 : (A' ++ B').head? = some x) : A ++ B = A' ++ B' := by
  have p : (B ++ A).Nodup := (List.perm_append_comm.nodup_iff).mpr nd
  -- where x stands in the turned one
  have key : ∀ {C D : List Int}, (D ++ C) = B ++ A → (C ++ D).head? = some x → C = [] ∨ (B ++ A)[D.length]? = some x := by
    intro C D e1 e2
    cases C with
    | nil => exact .inl rfl
    | cons c r =>
      simp at e2
      subst e2
      refine .inr ?_
      rw [← e1, List.getElem?_append_right (Nat.le_refl _)]
      simp
  rcases key rfl h1 with hA | hA
  · subst hA
    rcases key e.symm h2 with hA' | hA'
    · subst hA'
      simpa using e
    · -- x stands at B'.length, and ahead
      have h3 : (B ++ [])[0]? = some x := by
        rw [List.append_nil]
        simpa [List.head?_eq_getElem?] using h1
      have hlt := (List.getElem?_eq_some_iff.mp h3).1
      have := (List.getElem?_inj hlt p).mp (h3.trans hA'.symm)
      have hb : B' = [] := List.eq_nil_of_length_eq_zero this.symm
      subst hb
      simpa using e
  · rcases key e.symm h2 with hA' | hA'
    · subst hA'
      have h3 : (B ++ A)[0]? = some x := by
        rw [e, List.append_nil]
        simpa [List.head?_eq_getElem?] using h2
      have hlt := (List.getElem?_eq_some_iff.mp h3).1
      have := (List.getElem?_inj hlt p).mp (h3.trans hA.symm)
      have hb : B = [] := List.eq_nil_of_length_eq_zero this.symm
      subst hb
      simpa using e
    · have hlt := (List.getElem?_eq_some_iff.mp hA).1
      have hl := (List.getElem?_inj hlt p).mp (hA.trans hA'.symm)
      obtain ⟨e1, e2⟩ := List.append_inj e hl
      rw [e1, e2]
theorem pg_map_le {ps ps' : List (Int × Int)} {g : Int → Int} : ∀ {l : List Int}, (∀ x ∈ l, ∀ y ∈ l, tied ps x y = true → tied ps' (g x) (g y) = true) → pg ps l = 0 → pg ps' (l.map g) = 0
  | [], _, _ => rfl
  | [_], _, _ => rfl
  | x :: y :: r, h, e => by
    have e' : gp1 ps x y + pg ps (y :: r) = 0 := e
    have h1 : tied ps x y = true := gp1_zero.mp (by omega)
    have ih := pg_map_le (l := y :: r) (fun a ha b hb => h a (List.mem_cons_of_mem _ ha) b (List.mem_cons_of_mem _ hb)) (by omega)
    show gp1 ps' (g x) (g y) + pg ps' ((y :: r).map g) = 0
    rw [ih, gp1_zero.mpr (h x List.mem_cons_self y (List.mem_cons_of_mem _ List.mem_cons_self) h1)]
theorem tours_le {n : Nat} (n1 : 1 ≤ n) {ps ps' : List (Int × Int)} (g : Int → Int) (rng : ∀ x : Int, 0 ≤ x → x < n → 0 ≤ g x ∧ g x < n) (inj : ∀ x y : Int, 0 ≤ x → x < n → 0 ≤ y → y < n → g x = g y → x = y)
    (ht : ∀ x y : Int, 0 ≤ x → x < n → 0 ≤ y → y < n → tied ps x y = true → tied ps' (g x) (g y) = true) : (toursOf n ps).length ≤ (toursOf n ps').length := by
  have rg : ∀ {r : List Int}, IsOrd n r → ∀ x ∈ r, 0 ≤ x ∧ x < n := fun io x hx => upTo_mem.mp (io.mem_iff.mp hx)
  have nd : ∀ {r : List Int}, IsOrd n r → r.Nodup := fun io => io.nodup_iff.mpr (upTo_nodup n)
  have mapOrd : ∀ {r : List Int}, IsOrd n r → IsOrd n (r.map g) := fun {r} io => by
    refine ord_of (by rw [List.length_map, io.len]) (map_nodup (nd io) fun a ha b hb e => ?_) fun x hx => ?_
    · have h1 := rg io a ha
      have h2 := rg io b hb
      exact inj a b h1.1 h1.2 h2.1 h2.2 e
    · obtain ⟨y, hy, rfl⟩ := List.mem_map.mp hx
      have h1 := rg io y hy
      exact rng y h1.1 h1.2
  rw [← List.length_map (f := fun r => rot0 (r.map g))]
  refine nodup_le _ _ (map_nodup (tours_nodup n ps) fun a ha b hb e => ?_) fun x hx => ?_
  · obtain ⟨a1, a2, _⟩ := (mem_tours n1).mp ha
    obtain ⟨b1, b2, _⟩ := (mem_tours n1).mp hb
    have ea : a.map g = (a.map g).take ((a.map g).idxOf 0) ++ (a.map g).drop ((a.map g).idxOf 0) := (List.take_append_drop _ _).symm
    have eb : b.map g = (b.map g).take ((b.map g).idxOf 0) ++ (b.map g).drop ((b.map g).idxOf 0) := (List.take_append_drop _ _).symm
    have hda : (a.map g).head? = some (g 0) := by rw [List.head?_map, a2]; rfl
    have hdb : (b.map g).head? = some (g 0) := by rw [List.head?_map, b2]; rfl
    have same : a.map g = b.map g := by
      rw [ea, eb]
      refine rot_same (x := g 0) ?_ e ?_ ?_
      · rw [← ea]
        exact nd (mapOrd a1)
      · rw [← ea]
        exact hda
      · rw [← eb]
        exact hdb
    -- the maker is one to one
    have key : ∀ {a b : List Int}, (∀ x ∈ a, 0 ≤ x ∧ x < n) → (∀ x ∈ b, 0 ≤ x ∧ x < n) → a.map g = b.map g → a = b := by
      intro a
      induction a with
      | nil =>
        intro b _ _ e
        cases b with
        | nil => rfl
        | cons _ _ => cases e
      | cons x a ih =>
        intro b ra rb e
        cases b with
        | nil => cases e
        | cons y b =>
          injection e with e1 e2
          have h1 := ra x List.mem_cons_self
          have h2 := rb y List.mem_cons_self
          rw [inj x y h1.1 h1.2 h2.1 h2.2 e1, ih (fun z hz => ra z (List.mem_cons_of_mem _ hz)) (fun z hz => rb z (List.mem_cons_of_mem _ hz)) e2]
    exact key (rg a1) (rg b1) same
  · obtain ⟨r, hr, rfl⟩ := List.mem_map.mp hx
    obtain ⟨h1, h2, h3⟩ := (mem_tours n1).mp hr
    have io := mapOrd h1
    have h0 : (0 : Int) ∈ r.map g := io.mem_iff.mpr (upTo_mem.mpr (by omega))
    refine (mem_tours n1).mpr ⟨List.Perm.trans (rot0_perm _) io, rot0_head h0, ?_⟩
    rw [rot0_cyc]
    unfold cyc at h3 ⊢
    rw [← List.map_take, ← List.map_append]
    refine pg_map_le (fun x hx y hy t => ?_) h3
    have mem : ∀ z ∈ r ++ r.take 1, 0 ≤ z ∧ z < n := fun z hz => by
      rcases List.mem_append.mp hz with w | w
      · exact rg h1 z w
      · exact rg h1 z (List.mem_of_mem_take w)
    have hx1 := mem x hx
    have hy1 := mem y hy
    exact ht x y hx1.1 hx1.2 hy1.1 hy1.2 t
theorem tied_mono {ps ps' : List (Int × Int)} (h : ∀ p ∈ ps, p ∈ ps') {x y : Int} (t : tied ps x y = true) : tied ps' x y = true := by
  unfold tied at t ⊢
  simp only [Bool.or_eq_true, decide_eq_true_eq] at t ⊢
  rcases t with t | t
  · exact .inl (h _ t)
  · exact .inr (h _ t)
theorem counted_mono {n : Nat} (n1 : 1 ≤ n) {ps ps' : List (Int × Int)} (h : ∀ p ∈ ps, p ∈ ps') : countedOf n ps ≤ countedOf n ps' := by
  rw [counted_tours n1, counted_tours n1]
  by_cases c : n < 3
  · rw [if_pos c, if_pos c]
    exact Nat.le_refl _
  · rw [if_neg c, if_neg c]
    exact Nat.div_le_div_right (tours_le n1 (fun x => x) (fun x h0 h1 => ⟨h0, h1⟩) (fun _ _ _ _ _ _ e => e) fun _ _ _ _ _ _ t => tied_mono h t)
/-- a pair by its other names, the less one ahead -/
def named (os : List Int) (p : Int × Int) : Int × Int := (min (os.getD p.1.toNat 0) (os.getD p.2.toNat 0), max (os.getD p.1.toNat 0) (os.getD p.2.toNat 0))
theorem named_tied {n : Nat} {ps : List (Int × Int)} {os : List Int} (ti : Ties n ps) (io : IsOrd n os) {x y : Int} (x0 : 0 ≤ x) (x1 : x < n) (y0 : 0 ≤ y) (y1 : y < n) : tied (ps.map (named os)) (os.getD x.toNat 0) (os.getD y.toNat 0) = tied ps x y := by
  have hl := io.len
  have nd : os.Nodup := io.nodup_iff.mpr (upTo_nodup n)
  have inj : ∀ a b : Int, 0 ≤ a → a < n → 0 ≤ b → b < n → os.getD a.toNat 0 = os.getD b.toNat 0 → a = b := fun a b a0 a1 b0 b1 e => by
    rw [List.getD_eq_getElem?_getD, List.getD_eq_getElem?_getD, List.getElem?_eq_getElem (by omega), List.getElem?_eq_getElem (by omega)] at e
    have := (List.getElem_inj nd).mp (show os[a.toNat] = os[b.toNat] from e)
    omega
  rw [Bool.eq_iff_iff]
  unfold tied
  simp only [Bool.or_eq_true, decide_eq_true_eq, List.mem_map]
  have back : ∀ {a b : Int}, 0 ≤ a → a < n → 0 ≤ b → b < n → (∃ p, p ∈ ps ∧ named os p = (os.getD a.toNat 0, os.getD b.toNat 0)) → (a, b) ∈ ps ∨ (b, a) ∈ ps := by
    rintro a b a0 a1 b0 b1 ⟨p, hp, e⟩
    have bd := ti.bound hp
    unfold named at e
    injection e with e1 e2
    by_cases c : os.getD p.1.toNat 0 ≤ os.getD p.2.toNat 0
    · rw [Int.min_eq_left c] at e1
      rw [Int.max_eq_right c] at e2
      have h1 := inj p.1 a bd.1 bd.2.1 a0 a1 e1
      have h2 := inj p.2 b bd.2.2.1 bd.2.2.2 b0 b1 e2
      left
      rw [← h1, ← h2]
      exact hp
    · rw [Int.min_eq_right (by omega)] at e1
      rw [Int.max_eq_left (by omega)] at e2
      have h1 := inj p.2 a bd.2.2.1 bd.2.2.2 a0 a1 e1
      have h2 := inj p.1 b bd.1 bd.2.1 b0 b1 e2
      right
      rw [← h1, ← h2]
      exact hp
  have forth : ∀ {a b : Int}, (a, b) ∈ ps → (∃ p, p ∈ ps ∧ named os p = (os.getD a.toNat 0, os.getD b.toNat 0)) ∨ (∃ p, p ∈ ps ∧ named os p = (os.getD b.toNat 0, os.getD a.toNat 0)) := by
    intro a b h
    by_cases c : os.getD a.toNat 0 ≤ os.getD b.toNat 0
    · left
      refine ⟨_, h, ?_⟩
      show (min (os.getD a.toNat 0) (os.getD b.toNat 0), max (os.getD a.toNat 0) (os.getD b.toNat 0)) = _
      rw [Int.min_eq_left c, Int.max_eq_right c]
    · right
      refine ⟨_, h, ?_⟩
      show (min (os.getD a.toNat 0) (os.getD b.toNat 0), max (os.getD a.toNat 0) (os.getD b.toNat 0)) = _
      rw [Int.min_eq_right (by omega), Int.max_eq_left (by omega)]
  constructor
  · rintro (h | h)
    · exact back x0 x1 y0 y1 h
    · exact (back y0 y1 x0 x1 h).symm
  · rintro (h | h)
    · exact forth h
    · exact (forth h).symm
theorem tied_perm {ps qs : List (Int × Int)} (h : ps.Perm qs) (x y : Int) : tied ps x y = tied qs x y := by
  unfold tied
  rw [Bool.eq_iff_iff]
  simp only [Bool.or_eq_true, decide_eq_true_eq, h.mem_iff]
theorem counted_named {n : Nat} (n1 : 1 ≤ n) {ps qs : List (Int × Int)} {os : List Int} (ti : Ties n ps) (io : IsOrd n os) (pm : qs.Perm (ps.map (named os))) : countedOf n qs = countedOf n ps := by
  have hl := io.len
  have nd : os.Nodup := io.nodup_iff.mpr (upTo_nodup n)
  have rg : ∀ x : Int, 0 ≤ x → x < n → 0 ≤ os.getD x.toNat 0 ∧ os.getD x.toNat 0 < n := fun x h0 h1 => by
    rw [List.getD_eq_getElem?_getD, List.getElem?_eq_getElem (by omega)]
    exact upTo_mem.mp (io.mem_iff.mp (List.getElem_mem _))
  have inj : ∀ a b : Int, 0 ≤ a → a < n → 0 ≤ b → b < n → os.getD a.toNat 0 = os.getD b.toNat 0 → a = b := fun a b a0 a1 b0 b1 e => by
    rw [List.getD_eq_getElem?_getD, List.getD_eq_getElem?_getD, List.getElem?_eq_getElem (by omega), List.getElem?_eq_getElem (by omega)] at e
    have := (List.getElem_inj nd).mp (show os[a.toNat] = os[b.toNat] from e)
    omega
  have le1 := tours_le n1 (ps := ps) (ps' := qs) (fun x => os.getD x.toNat 0) rg inj fun x y x0 x1 y0 y1 t => by
    rw [tied_perm pm, named_tied ti io x0 x1 y0 y1]
    exact t
  -- and back
  have ix : ∀ x : Int, 0 ≤ x → x < n → os.idxOf x < n ∧ os.getD (os.idxOf x) 0 = x := fun x h0 h1 => by
    have hm : x ∈ os := io.mem_iff.mpr (upTo_mem.mpr ⟨h0, h1⟩)
    have hi := List.idxOf_lt_length_of_mem hm
    refine ⟨by omega, ?_⟩
    rw [List.getD_eq_getElem?_getD, List.getElem?_eq_getElem hi]
    exact List.getElem_idxOf hi
  have le2 := tours_le n1 (ps := qs) (ps' := ps) (fun x => ((os.idxOf x : Nat) : Int)) (fun x h0 h1 => by
      have := (ix x h0 h1).1
      omega) (fun x y x0 x1 y0 y1 e => by
      have e : os.idxOf x = os.idxOf y := by omega
      rw [← (ix x x0 x1).2, e, (ix y y0 y1).2]) fun x y x0 x1 y0 y1 t => by
    have h1 := ix x x0 x1
    have h2 := ix y y0 y1
    have := named_tied ti io (x := (os.idxOf x : Nat)) (y := (os.idxOf y : Nat)) (by omega) (by omega) (by omega) (by omega)
    rw [Int.toNat_natCast, Int.toNat_natCast, h1.2, h2.2, ← tied_perm pm, t] at this
    exact this.symm
  rw [counted_tours n1, counted_tours n1, Nat.le_antisymm le2 le1]
/-! #### all ties -/
def fact : Nat → Nat
  | 0 => 1
  | k + 1 => (k + 1) * fact k
theorem sum_const {α : Type} (f : α → Nat) (c : Nat) : ∀ {l : List α}, (∀ a ∈ l, f a = c) → (l.map f).sum = l.length * c
  | [], _ => by simp
  | a :: l, h => by
    rw [List.map_cons, List.sum_cons, h a List.mem_cons_self, sum_const f c fun b hb => h b (List.mem_cons_of_mem _ hb), List.length_cons, Nat.succ_mul]
    omega
theorem tied_all {n : Nat} {x y : Int} (x0 : 0 ≤ x) (x1 : x < n) (y0 : 0 ≤ y) (y1 : y < n) (ne : x ≠ y) : tied (pairsOf n) x y = true := by
  unfold tied
  by_cases c : x < y
  · rw [decide_eq_true (mem_pairsOf.mpr ⟨x0, c, y1⟩)]
    rfl
  · rw [decide_eq_true (mem_pairsOf.mpr ⟨y0, by omega, x1⟩), Bool.or_true]
theorem ways_all_ties {n : Nat} : ∀ (k : Nat) (p : Int) (left : List Int), left.length = k → left.Nodup → (∀ x ∈ left, 0 < x ∧ x < n) → p ∉ left → 0 ≤ p → p < n → (p ≠ 0 ∨ 1 ≤ k) → waysOf (pairsOf n) k p left = fact k
  | 0, p, left, _, _, _, _, p0, p1, hz => by
    unfold waysOf
    rcases hz with hz | hz
    · rw [if_pos (tied_all p0 p1 (by omega) (by omega) hz)]
      rfl
    · omega
  | k + 1, p, left, hl, nd, rng, hp, p0, p1, _ => by
    unfold waysOf
    have e : left.filter (tied (pairsOf n) p) = left := by
      rw [List.filter_eq_self]
      intro x hx
      have := rng x hx
      exact tied_all p0 p1 (by omega) this.2 fun z => hp (z ▸ hx)
    rw [e, sum_const _ (fact k), hl]
    · rfl
    · intro x hx
      have hr := rng x hx
      have e2 : left.filter (fun y => decide (y ≠ x)) = left.erase x := by
        rw [nd.erase_eq_filter]
        refine List.filter_congr fun y _ => ?_
        by_cases c : y = x <;> simp [c]
      refine ways_all_ties k x _ ?_ (nd.filter _) (fun y hy => rng y (List.mem_filter.mp hy).1) (fun h => ?_) (by omega) hr.2 (.inl (by omega))
      · rw [e2, List.length_erase_of_mem hx]
        omega
      · have := (List.mem_filter.mp h).2
        simp at this
theorem counted_all {n : Nat} (n3 : 3 ≤ n) : countedOf n (pairsOf n) = fact (n - 1) / 2 := by
  unfold countedOf
  rw [if_neg (by omega)]
  obtain ⟨h1, h2⟩ := rest_zero (n := n) (by omega)
  rw [← h1]
  have nd : (restOf n [0]).Nodup := (upTo_nodup n).filter _
  rw [ways_all_ties (n - 1) 0 _ h2 nd (fun x hx => ?_) (fun h => ?_) (by omega) (by omega) (.inr (by omega))]
  · obtain ⟨a, b⟩ := List.mem_filter.mp hx
    have := upTo_mem.mp a
    have b : ¬ x = 0 := by simpa using b
    omega
  · have := (List.mem_filter.mp h).2
    simp at this
/-- 3 * 4 * .. up to one less than many -/
def upFrom3 : Nat → Nat
  | 0 => 1
  | k + 1 => upFrom3 k * (3 + k)
theorem fact_two : ∀ k, fact (k + 2) = 2 * upFrom3 k
  | 0 => rfl
  | k + 1 => by
    show (k + 2 + 1) * fact (k + 2) = 2 * (upFrom3 k * (3 + k))
    rw [fact_two k, show k + 2 + 1 = 3 + k by omega, Nat.mul_comm (3 + k), Nat.mul_assoc]
theorem counted_all3 {n : Nat} (n3 : 3 ≤ n) : countedOf n (pairsOf n) = upFrom3 (n - 3) := by
  rw [counted_all n3, show n - 1 = (n - 3) + 2 by omega, fact_two]
  omega
end DR

set_option Elab.async false
set_option linter.all false
set_option maxRecDepth 100000
set_option maxHeartbeats 4000000
namespace DR
open PySem PySem.Spec PyProof.Rows L2
/-- not an extension -/
def plainO : HO → Prop
  | .ext _ => False
  | _ => True
theorem plain_ne {P : Program} {w : World} {H : Hp} {d b : Addr} {L : List (NestedKey × Addr × Value)} {o : HO} (hd : H d = some (NestO P w d L)) (e : H b = some o) (p : plainO o) : b ≠ d := fun z => by
  rw [z, hd] at e
  injection e with e
  subst e
  exact p
theorem PairsAt.keepP {H H' : Hp} {l : Addr} {ps : List (Int × Int)} (h : PairsAt H l ps) (k : ∀ b o, H b = some o → plainO o → H' b = some o) : PairsAt H' l ps := by
  obtain ⟨as, e, t⟩ := h
  exact ⟨as, k _ _ e trivial, t.keep fun b xs z => k _ _ z trivial⟩
theorem YardAt.keepP {C : Addr} {H H' : Hp} {y : Addr} {n : Nat} {ps : List (Int × Int)} (h : YardAt C H y n ps) (k : ∀ b o, H b = some o → plainO o → H' b = some o) : YardAt C H' y n ps := by
  obtain ⟨dx, l, td, dg, h1, h2, h3, h4⟩ := h
  exact ⟨dx, l, td, dg, k _ _ h1 trivial, h2.keepP k, k _ _ h3 trivial, k _ _ h4 trivial⟩
/-- a tuple of ints -/
def TupAt (H : Hp) (t : Addr) (ls : List Int) : Prop := H t = some (.tup (ls.map V.int))
theorem TupAt.same {H H' : Hp} {t : Addr} {ls : List Int} (h : TupAt H t ls) (s : Same H H') : TupAt H' t ls := s _ _ h
/-! #### what the memo holds -/
def subsOf : List Int → List (List Int)
  | [] => [[]]
  | x :: l => subsOf l ++ (subsOf l).map (x :: ·)
theorem mem_subs {l m : List Int} (h : l.Sublist m) : l ∈ subsOf m := by
  induction h with
  | slnil => simp [subsOf]
  | cons a _ ih => exact List.mem_append_left _ ih
  | cons_cons a _ ih => exact List.mem_append_right _ (List.mem_map.mpr ⟨_, ih, rfl⟩)
theorem subs_len : ∀ l : List Int, (subsOf l).length = 2 ^ l.length
  | [] => rfl
  | x :: l => by
    unfold subsOf
    rw [List.length_append, List.length_map, subs_len l, List.length_cons, Nat.pow_succ]
    omega
structure MemoOk (n : Nat) (ps : List (Int × Int)) (m : List ((Int × List Int) × Int)) : Prop where
  val : ∀ e ∈ m, e.2 = (waysOf ps e.1.2.length e.1.1 e.1.2 : Nat)
  key : ∀ e ∈ m, e.1.1 ∈ upTo n ∧ e.1.2.Sublist (upTo n)
  nd : (m.map (·.1)).Nodup
theorem MemoOk.len {n : Nat} {ps : List (Int × Int)} {m : List ((Int × List Int) × Int)} (h : MemoOk n ps m) : m.length ≤ n * 2 ^ n := by
  have e : ((upTo n).flatMap fun p => (subsOf (upTo n)).map fun l => (p, l)).length = n * 2 ^ n := by
    rw [List.length_flatMap]
    have : (fun p : Int => ((subsOf (upTo n)).map fun l => (p, l)).length) = fun _ => 2 ^ n := by
      funext p
      rw [List.length_map, subs_len, upTo_len]
    rw [this, sum_const (fun _ => 2 ^ n) (2 ^ n) fun _ _ => rfl, upTo_len]
  rw [← List.length_map (f := (·.1)), ← e]
  refine nodup_le _ _ h.nd fun k hk => ?_
  obtain ⟨e, he, rfl⟩ := List.mem_map.mp hk
  obtain ⟨h1, h2⟩ := h.key e he
  exact List.mem_flatMap.mpr ⟨e.1.1, h1, List.mem_map.mpr ⟨e.1.2, mem_subs h2, rfl⟩⟩
theorem MemoOk.small {n : Nat} {ps : List (Int × Int)} {m : List ((Int × List Int) × Int)} (h : MemoOk n ps m) (hn : n ≤ 12) : m.length < sizeLine := by
  have h1 := h.len
  have h2 : n * 2 ^ n ≤ 12 * 2 ^ 12 := Nat.mul_le_mul hn (Nat.pow_le_pow_right (by omega) hn)
  rw [sizeLine_eq]
  omega
theorem MemoOk.nil (n : Nat) (ps : List (Int × Int)) : MemoOk n ps [] := ⟨fun e h => (by cases h), fun e h => (by cases h), by simp⟩
theorem valM_none {m : List ((Int × List Int) × Int)} {k : Int × List Int} (h : k ∉ m.map (·.1)) : valM m k = none := by
  unfold valM
  rw [Option.map_eq_none_iff, List.find?_eq_none]
  intro e he c
  exact h (List.mem_map.mpr ⟨e, he, of_decide_eq_true c⟩)
theorem not_mem_of {m : List ((Int × List Int) × Int)} {k : Int × List Int} (h : valM m k = none) : k ∉ m.map (·.1) := fun c => by
  obtain ⟨e, he, rfl⟩ := List.mem_map.mp c
  unfold valM at h
  rw [Option.map_eq_none_iff, List.find?_eq_none] at h
  exact h e he (decide_eq_true rfl)
section
variable {P : Program} {w : World} {K : PySem.W.Frag} {mg : Str → Option Value} {base : Heap} {C : Addr}
/-! #### check_searched -/
def spSearched (C : Addr) : Sp := fun vs H Q _ => ∃ (y : Addr) (n : Nat) (ps : List (Int × Int)), vs = [.ref y] ∧ YardAt C H y n ps ∧ n ≤ 12 ∧ Q .non H
theorem scSearched : FnScope ["yard"] ["yard"] (defScope s_check_searched) := ⟨rfl, rfl, rfl, by decide +kernel, rfl, by decide +kernel, by decide +kernel⟩
theorem has_searched {t : Tok} (D : IsDef K mg "check_searched" s_check_searched) (T : YTxt K mg C) (gS : mg "MOST_SEARCHED" = some (.int 12 t)) (M : HasM P w K mg base C 1 "many" ["self"] (spMany C)) : Has P w K mg base 2 "check_searched" ["yard"] (spSearched C) := by
  refine has_of D scSearched (fun _ _ _ _ _ _ us hl => match us, hl with | [_], _ => rfl) (fun vs H Q E h => ?_) (fun f cdv A outer s H vs Q E hr h => ?_)
  · obtain ⟨y, n, ps, rfl, _⟩ := h
    rfl
  · obtain ⟨y, n, ps, rfl, hy, n12, q⟩ := h
    refine ⟨_, pss_one (ps_if (pt_cmpR op_gt (pe_hasM0 (pv 0) T.cl M hr (by decide)) (pe_glob (v := .int 12) rfl gS ⟨_, rfl⟩) (nomark _)) pss_never pss_nil), ?_⟩
    obtain ⟨dx, l, td, dg, h1, h2, h3, h4⟩ := id hy
    refine ⟨_, rfl, y, dx, _, rfl, h1, look_no n l td dg (by decide +kernel) (by decide +kernel) (by decide +kernel) (by decide +kernel), y, n, ps, rfl, hy, _, _, rfl, rfl, _, rfl, ?_⟩
    rw [decide_eq_false (show ¬ (n : Int) > 12 by omega)]
    exact iteF q
/-! #### without -/
def spWithout : Sp := fun vs H Q _ => ∃ (t : Addr) (ls : List Int) (x : Int), vs = [.ref t, .int x] ∧ TupAt H t ls ∧ ls.length ≤ 30 ∧ ∀ H' r, Same H H' → H r = none → TupAt H' r (ls.filter fun y => decide (y ≠ x)) → Q (.ref r) H'
abbrev nWithout : List Str := ["places", "place", "other"]
theorem scWithout : FnScope nWithout ["places", "place"] (defScope s_without) := ⟨rfl, rfl, rfl, by decide +kernel, rfl, by decide +kernel, by decide +kernel⟩
theorem has_without (D : IsDef K mg "without" s_without) (B : Blt mg) : Has P w K mg base 1 "without" ["places", "place"] spWithout := by
  refine has_of D scWithout (fun _ _ _ _ _ _ us hl => match us, hl with | [_, _], _ => rfl) (fun vs H Q E h => ?_) (fun f cdv A outer s H vs Q E hr h => ?_)
  · obtain ⟨t, ls, x, rfl, _⟩ := h
    rfl
  · obtain ⟨t, ls, x, rfl, ht, hl, q⟩ := h
    refine ⟨_, pss_one (ps_ret (pe_callTy call_tuple_of (by rfl) B.tuple (by decide +kernel) (pa_cons (pe_lc (own := [("other", 2)]) (g := gName 2) (by rfl) scWithout.nd (pi_tup (pv 0)) (blkOk_by (N := nWithout) (sc := defScope s_without) (by decide +kernel)) (fun _ _ _ _ _ => pg_name (i := 2) scWithout.nd rfl (.inl rfl))
      (fun _ _ _ _ _ => pts_one (pt_cmpR op_ne (pv 2) (pv 1) (nomark _))) (fun _ _ _ _ _ => pv 2)) pa_nil))), ?_⟩
    refine ⟨_, rfl, t, rfl, ⟨_, SqT.of ht⟩, fun D nD => ?_⟩
    have tD : t ≠ D := ne_of_none ht nD
    refine lc_tup (K := K) (a := t) (xs := ls.map V.int) (fun i H2 => Kp D H H2 ∧ H2 D = some (.lst (((ls.take i).filter fun y => decide (y ≠ x)).map V.int))) ⟨Kp.put _ _ _, upd_same⟩ (fun i H2 _ ⟨kp, _⟩ => SqT.of (kp _ _ tD ht)) ?_ ?_
    · rintro i v H2 hv ⟨kp, eD⟩
      obtain ⟨z, rfl⟩ := ints_at hv
      have hz : ls[i]? = some z := by
        rw [List.getElem?_map] at hv
        cases e : ls[i]? with
        | none =>
          rw [e] at hv
          cases hv
        | some u =>
          rw [e] at hv
          injection hv with hv
          injection hv with hv
          rw [hv]
      have hi := (List.getElem?_eq_some_iff.mp hz).1
      have tk : ls.take (i + 1) = ls.take i ++ [z] := by
        rw [List.take_succ, hz]
        rfl
      have lf := List.length_filter_le (fun y => decide (y ≠ x)) (ls.take i)
      rw [List.length_take] at lf
      refine ⟨rfl, _, rfl, _, rfl, rfl, _, rfl, ?_⟩
      by_cases c : z = x
      · subst c
        refine iteNS rfl ⟨kp, ?_⟩
        rw [tk, List.filter_append]
        simpa using eD
      · have hc : (!decide (V.int z = V.int x)) = true := by simp [c]
        refine ite2 (fun _ => ?_) (fun h => absurd hc (by simpa using h))
        refine ⟨_, rfl, _, eD, ?_, kp.trans (Kp.put _ _ _), ?_⟩
        · rw [List.length_map]
          exact small1000 (by omega)
        · rw [upd_same, tk, List.filter_append]
          simp [c]
    · rintro H2 ⟨kp, eD⟩
      rw [List.length_map, List.take_length] at eD
      have s2 : Same H H2 := fun c o e => kp c o (ne_of_none e nD) e
      refine ⟨D, _, rfl, .inl ⟨SqL.of eD, fun r nr => ?_⟩⟩
      exact q _ r (s2.trans (same_new nr)) (s2.free nr) upd_same
/-! #### ways_home -/
def spWays (P : Program) (w : World) (C : Addr) (k : Nat) : Sp := fun vs H Q _ => ∃ (y d t : Addr) (n : Nat) (ps : List (Int × Int)) (p : Int) (ls : List Int) (m : List ((Int × List Int) × Int)), vs = [.ref y, .ref d, .int p, .ref t] ∧ YardAt C H y n ps ∧ n ≤ 12 ∧ MemoAt P w H d m ∧ MemoOk n ps m ∧ TupAt H t ls ∧ ls.length = k ∧ ls.Sublist (upTo n) ∧ p ∈ upTo n ∧
  ∀ H' m', Kp d H H' → MemoAt P w H' d m' → MemoOk n ps m' → (∀ e ∈ m', e ∈ m ∨ e.1.2.length ≤ k) → Q (.int (waysOf ps k p ls : Nat)) H'
abbrev nWays : List Str := ["yard", "known", "place", "left", "onward"]
theorem scWays : FnScope nWays ["yard", "known", "place", "left"] (defScope s_ways_home) := ⟨rfl, rfl, rfl, by decide +kernel, rfl, by decide +kernel, by decide +kernel⟩
theorem hu20 {A : Around} {k : Nat} (hr : Room k A) : A.units + 20 < cLine := by have := hr.un; omega
theorem ways0 (D : IsDef K mg "ways_home" s_ways_home) (T : YTxt K mg C) (TD : HasM P w K mg base C 1 "is_tied" ["self", "one", "other"] (spTied C)) : Has P w K mg base 2 "ways_home" ["yard", "known", "place", "left"] (spWays P w C 0) := by
  refine has_of D scWays (fun _ _ _ _ _ _ us hl => match us, hl with | [_, _, _, _], _ => rfl) (fun vs H Q E h => ?_) (fun f cdv A outer s H vs Q E hr h => ?_)
  · obtain ⟨y, d, t, n, ps, p, ls, m, rfl, _⟩ := h
    rfl
  · obtain ⟨y, d, t, n, ps, p, ls, m, rfl, hy, n12, hm, mo, ht, hl, _, _, q⟩ := h
    obtain rfl : ls = [] := List.eq_nil_of_length_eq_zero hl
    refine ⟨_, pss_cons (ps_if (pt_not (pt_truth (pv 3) (by intro _; rfl))) (pss_one (ps_ret (pe_ifExp (pt_val (pe_hasM (pv 0) T.cl TD hr (by decide) (pa_cons (pv 2) (pa_cons pe_int pa_nil)))) pe_int pe_int))) pss_nil) pss_never, ?_⟩
    obtain ⟨dx, l, td, dg, h1, h2, h3, h4⟩ := id hy
    refine ⟨_, rfl, _, .inr (.inl ⟨_, SqT.of ht, rfl⟩), iteT ?_⟩
    refine ⟨_, rfl, y, dx, _, rfl, h1, look_no n l td dg (by decide +kernel) (by decide +kernel) (by decide +kernel) (by decide +kernel), _, rfl, y, n, ps, p, 0, rfl, hy, fun H' s' => ⟨_, rfl, ?_⟩⟩
    have q' := q H' m (Same.kp s' d) (hm.same s') mo fun e he => .inl he
    unfold waysOf at q'
    cases hb : tied ps p 0 with
    | true =>
      rw [hb] at q'
      exact iteT q'
    | false =>
      rw [hb] at q'
      exact iteF q'
theorem ways1 {k : Nat} (D : IsDef K mg "ways_home" s_ways_home) (B : Blt mg) (sm : mg "sum" = none) (T : YTxt K mg C) (TD : HasM P w K mg base C 1 "is_tied" ["self", "one", "other"] (spTied C)) (WO : Has P w K mg base 1 "without" ["places", "place"] spWithout)
    (WH : Has P w K mg base (k + 2) "ways_home" ["yard", "known", "place", "left"] (spWays P w C k)) : Has P w K mg base (k + 1 + 2) "ways_home" ["yard", "known", "place", "left"] (spWays P w C (k + 1)) := by
  refine has_of D scWays (fun _ _ _ _ _ _ us hl => match us, hl with | [_, _, _, _], _ => rfl) (fun vs H Q E h => ?_) (fun f cdv A outer s H vs Q E hr h => ?_)
  · obtain ⟨y, d, t, n, ps, p, ls, m, rfl, _⟩ := h
    rfl
  · obtain ⟨y, d, t, n, ps, p, ls, m, rfl, hy, n12, hm, mo, ht, hl, hsub, hp, q⟩ := h
    refine ⟨_, pss_cons (ps_if (pt_not (pt_truth (pv 3) (by intro _; rfl))) pss_never pss_nil)
      (C8.pss_cut (ps_if (pt_cmpR (r := rNestNot P w) (op_nestNot (hu20 hr)) (pe_tup (pa_cons (pv 2) (pa_cons (pv 3) pa_nil))) (pv 1) (by with_unfolding_all rfl))
        (pss_one (ps_asg (pe_callB (cr_sum rfl) (by rfl) sm (by decide +kernel) (pa_cons (pe_lc (own := [("onward", 4)]) (g := gName 4) (by rfl) scWays.nd (pi_tup (pv 3)) (blkOk_by (N := nWays) (sc := defScope s_ways_home) (by decide +kernel)) (fun _ _ _ _ _ => pg_name (i := 4) scWays.nd rfl (.inl rfl))
            (fun _ _ _ _ _ => pts_one (pt_val (pe_hasM (pv 0) T.cl TD hr (by omega) (pa_cons (pv 2) (pa_cons (pv 4) pa_nil)))))
            (fun _ _ _ _ _ => pe_has WH hr (Nat.le_refl _) (by rfl) (pa_cons (pv 0) (pa_cons (pv 1) (pa_cons (pv 4) (pa_cons (pe_has WO hr (by omega) (by rfl) (pa_cons (pv 3) (pa_cons (pv 4) pa_nil))) pa_nil)))))) pa_nil))
          (pg_sub (pv 1) (pe_tup (pa_cons (pv 2) (pa_cons (pv 3) pa_nil))) (set_nest (hu20 hr))))) pss_nil)
      (pss_one (ps_ret (pe_nestGet (hu20 hr) (pv 1) (pe_tup (pa_cons (pv 2) (pa_cons (pv 3) pa_nil))) (fun _ _ => rfl))))), ?_⟩
    have hne : (!(ls.map V.int).isEmpty) = true := by
      cases ls with
      | nil => cases hl
      | cons _ _ => rfl
    refine ⟨_, rfl, _, .inr (.inl ⟨_, SqT.of ht, rfl⟩), ?_⟩
    rw [hne]
    refine iteF ?_
    have nd : ls.Nodup := hsub.nodup (upTo_nodup n)
    have hl30 : ls.length ≤ 30 := by
      have := hsub.length_le
      rw [upTo_len] at this
      omega
    refine ⟨fun σ H' => σ = [some (.ref y), some (.ref d), some (.int p), some (.ref t), none] ∧ ∃ m', Kp d H H' ∧ MemoAt P w H' d m' ∧ MemoOk n ps m' ∧ (∀ e ∈ m', e ∈ m ∨ e.1.2.length ≤ k + 1) ∧ valM m' (p, ls) = some ((waysOf ps (k + 1) p ls : Nat) : Int), ?_, ?_⟩
    · refine ⟨_, rfl, _, rfl, by show 2 ≤ sizeLine; decide, fun t1 nt1 => ?_⟩
      have s1 := same_new (o := .tup [.int p, .ref t]) nt1
      have hk1 : KeyAt (upd H t1 (.tup [.int p, .ref t])) t1 (p, ls) := ⟨t, upd_same, s1 _ _ ht⟩
      have hm1 := hm.same s1
      have hy1 := hy.same s1
      have ht1 := TupAt.same ht s1
      generalize upd H t1 (.tup [.int p, .ref t]) = H1 at s1 hk1 hm1 hy1 ht1
      refine ⟨_, rfl, t1, d, (p, ls), m, rfl, rfl, hk1, hm1, _, rfl, ?_⟩
      cases hv : valM m (p, ls) with
      | some v =>
        have hv2 := mo.val _ (valM_mem hv)
        dsimp only at hv2
        rw [hl] at hv2
        refine iteF ⟨rfl, m, Same.kp s1 d, hm1, mo, fun e he => .inl he, ?_⟩
        rw [hv, hv2]
      | none =>
        refine iteT ?_
        obtain ⟨L1, ed1, _⟩ := id hm1
        refine ⟨_, rfl, t, rfl, ⟨_, SqT.of ht1⟩, fun D nD => ?_⟩
        have tD : t ≠ D := ne_of_none ht1 nD
        have dD : d ≠ D := ne_of_none ed1 nD
        have td1 : t ≠ d := plain_ne ed1 ht1 trivial
        refine lc_tup (K := K) (a := t) (xs := ls.map V.int) (fun i H2 => ∃ m', (∀ b o, b ≠ d → b ≠ D → H1 b = some o → H2 b = some o) ∧ H2 D = some (.lst ((((ls.take i).filter (tied ps p)).map fun x => ((waysOf ps k x (ls.filter fun y => decide (y ≠ x)) : Nat) : Int)).map V.int)) ∧ MemoAt P w H2 d m' ∧ MemoOk n ps m' ∧ (∀ e ∈ m', e ∈ m ∨ e.1.2.length ≤ k))
          ⟨m, fun b o _ b2 e => by rw [upd_ne b2]; exact e, upd_same, hm1.same (same_new nD), mo, fun e he => .inl he⟩ (fun i H2 _ ⟨_, kp, _⟩ => SqT.of (kp _ _ td1 tD ht1)) ?_ ?_
        · rintro i v H2 hv' ⟨m2, kp, eD, hm2, mo2, new2⟩
          obtain ⟨z, rfl⟩ := ints_at hv'
          have hz : ls[i]? = some z := by
            rw [List.getElem?_map] at hv'
            cases e : ls[i]? with
            | none =>
              rw [e] at hv'
              cases hv'
            | some u =>
              rw [e] at hv'
              injection hv' with hv'
              injection hv' with hv'
              rw [hv']
          have hi := (List.getElem?_eq_some_iff.mp hz).1
          have hzm := List.mem_of_getElem? hz
          have tk : ls.take (i + 1) = ls.take i ++ [z] := by
            rw [List.take_succ, hz]
            rfl
          have lf := List.length_filter_le (tied ps p) (ls.take i)
          rw [List.length_take] at lf
          have kpP : ∀ b o, H1 b = some o → plainO o → H2 b = some o := fun b o e po => kp b o (plain_ne ed1 e po) (ne_of_none e nD) e
          have hy2 := hy1.keepP kpP
          have ht2 : TupAt H2 t ls := kpP _ _ ht1 trivial
          obtain ⟨dx, l, tdd, dg, g1, g2, g3, g4⟩ := id hy2
          refine ⟨rfl, _, rfl, y, dx, _, rfl, g1, look_no n l tdd dg (by decide +kernel) (by decide +kernel) (by decide +kernel) (by decide +kernel), _, rfl, _, rfl, y, n, ps, p, z, rfl, hy2, fun H3 s3 => ⟨_, rfl, ?_⟩⟩
          have kp3 : ∀ b o, b ≠ d → b ≠ D → H1 b = some o → H3 b = some o := fun b o b1 b2 e => s3 _ _ (kp b o b1 b2 e)
          cases hb : tied ps p z with
          | false =>
            refine iteF ⟨m2, kp3, ?_, hm2.same s3, mo2, new2⟩
            rw [tk, List.filter_append]
            simpa [hb] using s3 _ _ eD
          | true =>
            refine iteT ?_
            refine ⟨_, rfl, _, rfl, _, rfl, _, rfl, _, rfl, t, ls, z, rfl, TupAt.same ht2 s3, hl30, fun H4 r s4 nr hr4 => ?_⟩
            have s34 := s3.trans s4
            have hlen : (ls.filter fun y => decide (y ≠ z)).length = k := by
              have e2 : ls.filter (fun y => decide (y ≠ z)) = ls.erase z := by
                rw [nd.erase_eq_filter]
                refine List.filter_congr fun y _ => ?_
                by_cases c : y = z <;> simp [c]
              rw [e2, List.length_erase_of_mem hzm]
              omega
            refine ⟨y, d, r, n, ps, z, _, m2, rfl, hy2.same s34, n12, hm2.same s34, mo2, hr4, hlen, (List.filter_sublist).trans hsub, hsub.subset hzm, fun H5 m5 kp5 hm5 mo5 new5 => ?_⟩
            have eD4 := s34 _ _ eD
            have eD5 := kp5 _ _ (Ne.symm dD) eD4
            refine ⟨_, eD5, ?_, m5, fun b o b1 b2 e => ?_, ?_, ?_, mo5, fun e he => ?_⟩
            · rw [List.length_map, List.length_map]
              exact small1000 (by omega)
            · rw [upd_ne b2]
              exact kp5 _ _ b1 (s4 _ _ (kp3 b o b1 b2 e))
            · rw [upd_same, tk, List.filter_append]
              simp [hb]
            · refine hm5.keep (upd_ne dD) fun b xs e => ?_
              rw [upd_ne (ne_of e eD5 (by intro z; cases z))]
              exact e
            · rcases new5 e he with h | h
              · exact new2 e h
              · exact .inr h
        · rintro H2 ⟨m2, kp, eD, hm2, mo2, new2⟩
          rw [List.length_map, List.take_length] at eD
          have kpP : ∀ b o, H1 b = some o → plainO o → H2 b = some o := fun b o e po => kp b o (plain_ne ed1 e po) (ne_of_none e nD) e
          have ht2 : TupAt H2 t ls := kpP _ _ ht1 trivial
          refine ⟨D, _, rfl, SqL.of eD, ?_⟩
          refine ⟨_, rfl, _, rfl, _, rfl, by show 2 ≤ sizeLine; decide, fun t2 nt2 => ?_⟩
          have s2 := same_new (o := .tup [.int p, .ref t]) nt2
          have hno : valM m2 (p, ls) = none := by
            refine valM_none fun c => ?_
            obtain ⟨e, he, e1⟩ := List.mem_map.mp c
            rcases new2 e he with h | h
            · exact not_mem_of hv (List.mem_map.mpr ⟨e, h, e1⟩)
            · rw [e1] at h
              dsimp only at h
              omega
          have eN : (((ls.filter (tied ps p)).map fun x => ((waysOf ps k x (ls.filter fun y => decide (y ≠ x)) : Nat) : Int)).sum) = (waysOf ps (k + 1) p ls : Nat) := by
            have key : ∀ l : List Int, ((l.map fun x => ((waysOf ps k x (ls.filter fun y => decide (y ≠ x)) : Nat) : Int)).sum) = ((l.map fun x => waysOf ps k x (ls.filter fun y => decide (y ≠ x))).sum : Nat) := by
              intro l
              induction l with
              | nil => rfl
              | cons a l ih =>
                rw [List.map_cons, List.sum_cons, ih, List.map_cons, List.sum_cons]
                omega
            exact key _
          refine ⟨t2, d, (p, ls), m2, _, rfl, rfl, rfl, ⟨t, upd_same, s2 _ _ ht2⟩, hm2.same s2, hno, mo2.small n12, fun H3 kp3 hm3 => ?_⟩
          rw [eN] at hm3
          refine ⟨rfl, _, fun b o nb e => ?_, hm3, ⟨fun e he => ?_, fun e he => ?_, ?_⟩, fun e he => ?_, valM_snoc hno⟩
          · have e1 := s1 _ _ e
            exact kp3 _ _ nb (s2 _ _ (kp _ _ nb (ne_of_none e1 nD) e1))
          · rcases List.mem_append.mp he with h | h
            · exact mo2.val e h
            · rw [List.mem_singleton.mp h]
              show _ = ((waysOf ps ls.length p ls : Nat) : Int)
              rw [hl]
          · rcases List.mem_append.mp he with h | h
            · exact mo2.key e h
            · rw [List.mem_singleton.mp h]
              exact ⟨hp, hsub⟩
          · rw [List.map_append, List.nodup_append]
            refine ⟨mo2.nd, by simp, fun a ha b hb e => ?_⟩
            have hb : b = (p, ls) := by simpa using hb
            rw [hb] at e
            exact not_mem_of hno (e ▸ ha)
          · rcases List.mem_append.mp he with h | h
            · rcases new2 e h with h' | h'
              · exact .inl h'
              · exact .inr (by omega)
            · rw [List.mem_singleton.mp h]
              exact .inr (by dsimp only; omega)
    · rintro σ H1 ⟨rfl, m1, kp1, hm1, mo1, new1, hv1⟩
      obtain ⟨L0, ed0, _⟩ := id hm
      have ht1 : TupAt H1 t ls := kp1 _ _ (plain_ne ed0 ht trivial) ht
      refine ⟨_, rfl, _, rfl, _, rfl, by show 2 ≤ sizeLine; decide, fun t2 nt2 => ?_⟩
      have s2 := same_new (o := .tup [.int p, .ref t]) nt2
      refine ⟨t2, d, (p, ls), m1, _, rfl, rfl, ⟨t, upd_same, s2 _ _ ht1⟩, hm1.same s2, hv1, ?_⟩
      exact q _ m1 (kp1.trans (Same.kp s2 d)) (hm1.same s2) mo1 new1
theorem ways_all (D : IsDef K mg "ways_home" s_ways_home) (B : Blt mg) (sm : mg "sum" = none) (T : YTxt K mg C) (TD : HasM P w K mg base C 1 "is_tied" ["self", "one", "other"] (spTied C)) (WO : Has P w K mg base 1 "without" ["places", "place"] spWithout) :
    ∀ k : Nat, Has P w K mg base (k + 2) "ways_home" ["yard", "known", "place", "left"] (spWays P w C k)
  | 0 => ways0 D T TD
  | k + 1 => ways1 D B sm T TD WO (ways_all D B sm T TD WO k)
theorem rgV_rest {n : Nat} (n1 : 1 ≤ n) : rgV 1 (n : Int) = ((upTo n).drop 1).map V.int := by
  obtain ⟨m, rfl⟩ : ∃ m, n = m + 1 := ⟨n - 1, by omega⟩
  unfold rgV upTo
  rw [List.range_succ_eq_map, List.map_cons, List.map_map, List.drop_succ_cons, List.drop_zero, List.map_map]
  have e : (((m + 1 : Nat) : Int) - 1).toNat = m := by omega
  rw [e]
  refine List.map_congr_left fun i _ => ?_
  show V.int (1 + (i : Int)) = V.int ((i + 1 : Nat) : Int)
  congr 1
  omega
theorem rest_len (n : Nat) : ((upTo n).drop 1).length = n - 1 := by rw [List.length_drop, upTo_len]
end
end DR

set_option Elab.async false
set_option linter.all false
set_option maxRecDepth 100000
set_option maxHeartbeats 4000000
namespace DR
open PySem PySem.Spec PyProof.Rows L2
/-- orders in a list -/
def OrdsAs (H : Hp) (as : List Addr) (oss : List (List Int)) : Prop := Paired (fun a os => OrdAt H a os) as oss
theorem OrdsAs.keep {H H' : Hp} {as : List Addr} {oss : List (List Int)} (h : OrdsAs H as oss) (k : ∀ a ∈ as, ∀ o, H a = some o → H' a = some o) : OrdsAs H' as oss := by
  induction h with
  | nil => exact .nil
  | cons r t ih => exact .cons (k _ List.mem_cons_self _ r) (ih fun a ha o e => k a (List.mem_cons_of_mem _ ha) o e)
theorem OrdsAs.same {H H' : Hp} {as : List Addr} {oss : List (List Int)} (h : OrdsAs H as oss) (s : Same H H') : OrdsAs H' as oss := h.keep fun a _ o e => s a o e
theorem OrdsAs.length {H : Hp} {as : List Addr} {oss : List (List Int)} (h : OrdsAs H as oss) : as.length = oss.length := Paired.length h
theorem OrdsAs.snoc {H : Hp} : ∀ {as : List Addr} {oss : List (List Int)} {a : Addr} {os : List Int}, OrdsAs H as oss → OrdAt H a os → OrdsAs H (as ++ [a]) (oss ++ [os])
  | _, _, _, _, .nil, h => .cons h .nil
  | _, _, _, _, .cons r t, h => .cons r (OrdsAs.snoc t h)
theorem OrdsAs.at_ {H : Hp} : ∀ {as : List Addr} {oss : List (List Int)} {i : Nat} {os : List Int}, OrdsAs H as oss → oss[i]? = some os → ∃ a, as[i]? = some a ∧ OrdAt H a os
  | _, _, _, _, .nil, e => by simp at e
  | _, _, 0, _, .cons r _, e => by
    simp at e
    subst e
    exact ⟨_, rfl, r⟩
  | _, _, i + 1, os, .cons _ t, e => by
    obtain ⟨a, h1, h2⟩ := OrdsAs.at_ (i := i) (os := os) t (by simpa using e)
    exact ⟨a, by simpa using h1, h2⟩
theorem OrdsAs.lastV {H : Hp} {as : List Addr} {oss : List (List Int)} {os : List Int} (h : OrdsAs H as oss) (e : oss.getLast? = some os) : ∃ a, a ∈ as ∧ atI (as.map V.ref) (-1) = some (.ref a) ∧ OrdAt H a os := by
  have hl := h.length
  rw [List.getLast?_eq_getElem?] at e
  obtain ⟨a, h1, h2⟩ := h.at_ e
  have hlt := (List.getElem?_eq_some_iff.mp h1).1
  rw [← hl] at h1
  have e2 : as.map V.ref = as.dropLast.map V.ref ++ [V.ref a] := by
    have ne : as ≠ [] := fun z => by
      rw [z] at hlt
      cases hlt
    have h3 := (List.dropLast_concat_getLast ne).symm
    rw [List.getLast_eq_getElem] at h3
    have h4 : as[as.length - 1]'(by omega) = a := (List.getElem?_eq_some_iff.mp h1).2
    rw [h4] at h3
    conv => lhs; rw [h3]
    rw [List.map_append]
    rfl
  exact ⟨a, List.mem_of_getElem? h1, by rw [e2, atI_last], h2⟩
theorem mem_last {α : Type} {l : List α} {x : α} : (l ++ [x]).getLast? = some x := by simp
theorem OrdsAs.app {H : Hp} : ∀ {as bs : List Addr} {p q : List (List Int)}, OrdsAs H as p → OrdsAs H bs q → OrdsAs H (as ++ bs) (p ++ q)
  | _, _, _, _, .nil, h => h
  | _, _, _, _, .cons r t, h => .cons r (OrdsAs.app t h)
end DR

set_option Elab.async false
set_option linter.all false
set_option maxRecDepth 100000
set_option maxHeartbeats 4000000
namespace DR
open PySem PySem.Spec PyProof.Rows L2
def ofN (js : List Nat) : List Int := js.map fun j : Nat => (j : Int)
noncomputable def partIn (n : Nat) (ps : List (Int × Int)) (k : Nat) : Option (List Nat) := (combF k n 0).find? fun js => decide (k < (groupsOf n ps (ofN js)).length)
noncomputable def partGo (n : Nat) (ps : List (Int × Int)) : Nat → Nat → Option (List Nat)
  | 0, _ => none
  | c + 1, k => match partIn n ps k with
    | some js => some js
    | none => partGo n ps c (k + 1)
noncomputable def partingOf (n : Nat) (ps : List (Int × Int)) : Option (List Nat) := partGo n ps ((n + 1) / 2 - 1) 1
section
variable {P : Program} {w : World} {K : PySem.W.Frag} {mg : Str → Option Value} {base : Heap} {C : Addr}
/-! #### group_of -/
def spGroup (C : Addr) : Sp := fun vs H Q _ => ∃ (y l : Addr) (n : Nat) (ps : List (Int × Int)) (a : Int) (others : List Int), vs = [.ref y, .int a, .ref l] ∧ YardAt C H y n ps ∧ OrdAt H l others ∧ (a :: others).Pairwise (· < ·) ∧ others.length ≤ 30 ∧
  ∀ H' r, Same H H' → H r = none → OrdAt H' r (compOf ps (a :: others) a) → Q (.ref r) H'
abbrev nGroup : List Str := ["yard", "first", "others", "group", "at", "here", "place"]
theorem scGroup : FnScope nGroup ["yard", "first", "others"] (defScope s_group_of) := ⟨rfl, rfl, rfl, by decide +kernel, rfl, by decide +kernel, by decide +kernel⟩
theorem has_group (D : IsDef K mg "group_of" s_group_of) (B : Blt mg) (T : YTxt K mg C) (TD : HasM P w K mg base C 1 "is_tied" ["self", "one", "other"] (spTied C)) : Has P w K mg base 2 "group_of" ["yard", "first", "others"] (spGroup C) := by
  refine has_of D scGroup (fun _ _ _ _ _ _ us hl => match us, hl with | [_, _, _], _ => rfl) (fun vs H Q E h => ?_) (fun f cdv A outer s H vs Q E hr h => ?_)
  · obtain ⟨y, l, n, ps, a, others, rfl, _⟩ := h
    rfl
  · obtain ⟨y, l, n, ps, a, others, rfl, hy, ho, lt, few, q⟩ := h
    refine ⟨_, pss_cons (ps_set (i := 3) scGroup.nd rfl (.inr rfl) (pe_lst (pa_cons (pv 1) pa_nil)))
      (pss_cons (ps_set (i := 4) scGroup.nd rfl (.inl rfl) pe_int)
      (pss_cons (ps_while PassesOwn.never (pt_cmpR op_lt (pv 4) (pe_callB call_len_seq (by rfl) B.len PySem.boot_len (pa_cons (pv 3) pa_nil)) (nomark _))
        (pss_cons (ps_set (i := 5) scGroup.nd rfl (.inr rfl) (pe_ix (r := rIxL K) ix_list (pv 3) (pv 4) (fun _ _ => rfl)))
        (pss_cons (ps_expr (pe_bm PySem.F.plainAttrs_list PySem.F.slot_list_extend PySem.F.type_list_extend mt_extend (pv 3) (pa_cons
            (pe_lc (own := [("place", 6)]) (g := gName 6) (by rfl) scGroup.nd (pi_list (pv 2)) (blkOk_by (N := nGroup) (sc := defScope s_group_of) (by decide +kernel)) (fun _ _ _ _ _ => pg_name (i := 6) scGroup.nd rfl (.inl rfl))
              (fun _ _ _ _ _ => pts_one (PW.pt (pw_and (pt_cmpR (r := rIn K true) op_notIn_seq (pv 6) (pv 3) (by with_unfolding_all rfl)) (pw_and1 (pt_val (pe_hasM (pv 0) T.cl TD hr (by decide) (pa_cons (pv 5) (pa_cons (pv 6) pa_nil)))))))) (fun _ _ _ _ _ => pv 6)) pa_nil)))
        (pss_one (ps_aug (i := 4) scGroup.nd rfl (.inl rfl) pe_int ip_add)))))
      (pss_one (ps_ret (pe_callB cr_sortedI (by rfl) B.sorted (by decide +kernel) (pa_cons (pv 3) pa_nil)))))), ?_⟩
    have ond : others.Nodup := (List.pairwise_cons.mp lt).2.imp fun h => by omega
    refine ⟨_, rfl, by show 1 ≤ sizeLine; decide, fun g0 ng0 => ?_⟩
    have lg : l ≠ g0 := ne_of_none ho ng0
    refine ⟨fun m σ H2 => ∃ (g : List Int) (k : Nat) (x5 : Option V), m = others.length + 1 - k ∧ σ = [some (.ref y), some (.int a), some (.ref l), some (.ref g0), some (.int (k : Int)), x5, none] ∧ Kp g0 H H2 ∧ OrdAt H2 g0 g ∧ Grown ps a others g k,
      ⟨_, [a], 0, none, rfl, rfl, Kp.put _ _ _, upd_same, Grown.first ps a others⟩, ?_⟩
    rintro m σ H2 ⟨g, k, x5, rfl, rfl, kp, eg, gr⟩
    have s2 : Same H H2 := fun c o e => kp c o (ne_of_none e ng0) e
    have gl := gr.len
    refine ⟨_, rfl, _, rfl, g0, _, rfl, .inl eg.sq, _, _, rfl, rfl, _, rfl, ?_⟩
    rw [List.length_map]
    by_cases c : k < g.length
    · rw [decide_eq_true (by omega)]
      refine iteT ⟨_, fun σ' H' h => h, ?_⟩
      refine ⟨_, rfl, _, rfl, g0, _, _, _, rfl, rfl, eg.sq, eg.at_ c, ?_⟩
      refine ⟨_, rfl, .inl ⟨rfl, _, eg.sq⟩, ?_⟩
      have ho2 := ho.same s2
      refine ⟨_, rfl, l, rfl, ⟨_, ho2.sq⟩, fun D nD => ?_⟩
      have lD : l ≠ D := ne_of_none ho2 nD
      have gD : g0 ≠ D := ne_of_none eg nD
      refine lc_list (K := K) (a := l) (xs := others.map V.int) (fun i H3 => Kp D H2 H3 ∧ H3 D = some (.lst (((others.take i).filter fun x => !decide (x ∈ g) && tied ps (g.getD k 0) x).map V.int))) ⟨Kp.put _ _ _, upd_same⟩ (fun i H3 _ ⟨k3, _⟩ => SqL.of (k3 _ _ lD ho2)) ?_ ?_
      · rintro i v H3 hv ⟨k3, eD⟩
        obtain ⟨z, rfl⟩ := ints_at hv
        have hz : others[i]? = some z := by
          rw [List.getElem?_map] at hv
          cases e : others[i]? with
          | none =>
            rw [e] at hv
            cases hv
          | some u =>
            rw [e] at hv
            injection hv with hv
            injection hv with hv
            rw [hv]
        have tk : others.take (i + 1) = others.take i ++ [z] := by
          rw [List.take_succ, hz]
          rfl
        have lf := List.length_filter_le (fun x => !decide (x ∈ g) && tied ps (g.getD k 0) x) (others.take i)
        rw [List.length_take] at lf
        have s3 : Same H2 H3 := fun c o e => k3 c o (ne_of_none e nD) e
        have next : ∀ H4, Same H3 H4 → (!decide (z ∈ g) && tied ps (g.getD k 0) z) = false → Kp D H2 H4 ∧ H4 D = some (.lst (((others.take (i + 1)).filter fun x => !decide (x ∈ g) && tied ps (g.getD k 0) x).map V.int)) := fun H4 s4 hf => by
          refine ⟨k3.trans (Same.kp s4 D), ?_⟩
          rw [tk, List.filter_append, s4 _ _ eD, List.filter_cons, if_neg (by rw [hf]; exact Bool.false_ne_true), List.filter_nil, List.append_nil]
        refine ⟨rfl, _, rfl, _, rfl, g0, _, rfl, .inl (eg.same s3).sq, rfl, flat_intsV _, _, rfl, ?_⟩
        simp only [if_true]
        rw [inV_dec]
        by_cases mem : z ∈ g
        · rw [decide_eq_true mem]
          exact iteF (next H3 (Same.refl _) (by simp [mem]))
        · rw [decide_eq_false mem]
          refine iteT ?_
          have hy3 := (hy.same s2).same s3
          obtain ⟨dx, tl, td, dg, h1, h2, h3, h4⟩ := id hy3
          refine ⟨_, rfl, y, dx, _, rfl, h1, look_no n tl td dg (by decide +kernel) (by decide +kernel) (by decide +kernel) (by decide +kernel), _, rfl, _, rfl, y, n, ps, _, z, rfl, hy3, fun H4 s4 => ⟨_, rfl, ?_⟩⟩
          cases hb : tied ps (g.getD k 0) z with
          | false => exact iteF (next H4 s4 (by rw [hb, Bool.and_false]))
          | true =>
            refine iteT ⟨_, rfl, _, s4 _ _ eD, ?_, (k3.trans (Same.kp s4 D)).trans (Kp.put _ _ _), ?_⟩
            · rw [List.length_map]
              exact small1000 (by omega)
            · rw [upd_same, tk, List.filter_append, List.filter_cons, if_pos (by rw [hb, decide_eq_false mem]; rfl), List.filter_nil, List.map_append]
              rfl
      · rintro H3 ⟨k3, eD⟩
        rw [List.length_map, List.take_length] at eD
        have s3 : Same H2 H3 := fun c o e => k3 c o (ne_of_none e nD) e
        refine ⟨g0, D, _, _, rfl, rfl, s3 _ _ eg, eD, ?_, ?_⟩
        · have lf := List.length_filter_le (fun x => !decide (x ∈ g) && tied ps (g.getD k 0) x) others
          rw [List.length_map, List.length_map]
          exact Nat.le_of_lt (small1000 (by omega))
        refine ⟨_, rfl, _, _, rfl, rfl, ?_⟩
        refine ⟨others.length + 1 - (k + 1), by omega, growOn ps others g k, k + 1, _, rfl, rfl, fun c o nc e => ?_, ?_, gr.on ond c⟩
        · rw [upd_ne nc]
          exact s3 _ _ (kp _ _ nc e)
        · show upd _ _ _ _ = _
          rw [upd_same, ← List.map_append]
          rfl
    · have ek : k = g.length := Nat.le_antisymm gr.at_le (by omega)
      subst ek
      rw [decide_eq_false (by omega)]
      refine iteF ?_
      refine ⟨_, rfl, g0, g, rfl, eg.sq, fun ns p pm sr np => ?_⟩
      have e := gr.sorted lt pm sr
      subst e
      exact q _ p (s2.trans (same_new np)) (s2.free np) upd_same
/-! #### groups_without -/
def spGroups (C : Addr) : Sp := fun vs H Q _ => ∃ (y p : Addr) (n : Nat) (ps : List (Int × Int)) (gone : List Int), vs = [.ref y, .ref p] ∧ YardAt C H y n ps ∧ (OrdAt H p gone ∨ TupAt H p gone) ∧ n ≤ 30 ∧
  ∀ H' r as, Same H H' → H r = none → H' r = some (.lst (as.map V.ref)) → (∀ a ∈ as, H a = none ∧ a ≠ r) → OrdsAs H' as (groupsOf n ps gone) → Q (.ref r) H'
abbrev nGroups : List Str := ["yard", "places", "left", "groups", "group", "place"]
theorem scGroups : FnScope nGroups ["yard", "places"] (defScope s_groups_without) := ⟨rfl, rfl, rfl, by decide +kernel, rfl, by decide +kernel, by decide +kernel⟩
theorem leftP_take (n : Nat) (gone : List Int) {i : Nat} (hi : i < n) : ((upTo n).take (i + 1)).filter (fun x => !decide (x ∈ gone)) = ((upTo n).take i).filter (fun x => !decide (x ∈ gone)) ++ [(i : Int)].filter (fun x => !decide (x ∈ gone)) := by
  rw [List.take_succ, List.filter_append]
  congr 2
  unfold upTo
  rw [List.getElem?_map, List.getElem?_range hi]
  rfl
theorem has_groups (D : IsDef K mg "groups_without" s_groups_without) (B : Blt mg) (T : YTxt K mg C) (M : HasM P w K mg base C 1 "many" ["self"] (spMany C)) (GO : Has P w K mg base 2 "group_of" ["yard", "first", "others"] (spGroup C)) : Has P w K mg base 3 "groups_without" ["yard", "places"] (spGroups C) := by
  refine has_of D scGroups (fun _ _ _ _ _ _ us hl => match us, hl with | [_, _], _ => rfl) (fun vs H Q E h => ?_) (fun f cdv A outer s H vs Q E hr h => ?_)
  · obtain ⟨y, p, n, ps, gone, rfl, _⟩ := h
    rfl
  · obtain ⟨y, p, n, ps, gone, rfl, hy, hp, n30, q⟩ := h
    refine ⟨_, pss_cons (ps_setLc (i := 2) (own := [("place", 5)]) (g := gName 5) (by rfl) scGroups.nd rfl rfl (sw_true rfl rfl rfl (by decide +kernel)) (pi_range1 (by rfl) B.range (pa_cons (pe_hasM0 (pv 0) T.cl M hr (by decide)) pa_nil)) (blkOk_by (N := nGroups) (sc := defScope s_groups_without) (by decide +kernel)) (fun _ _ _ _ _ => pg_name (i := 5) scGroups.nd rfl (.inl rfl))
          (fun _ _ _ _ _ => pts_one (pt_cmpR (r := rIn K true) op_notIn_seq (pv 5) (pv 1) (by with_unfolding_all rfl))) (fun _ _ _ _ _ => pv 5))
      (pss_cons (ps_set (i := 3) scGroups.nd rfl (.inl rfl) (pe_lst pa_nil))
      (pss_cons (ps_while PassesOwn.never (pt_truth (pv 2) (by intro _; rfl))
        (pss_cons (ps_set (i := 4) scGroups.nd rfl (.inr rfl) (pe_has GO hr (by decide) (by rfl) (pa_cons (pv 0) (pa_cons (pe_ix (r := rIxL K) ix_list (pv 2) pe_int (fun _ _ => rfl)) (pa_cons (pe_slice sl_list (pv 2) (po_some pe_int) po_none) pa_nil)))))
        (pss_cons (ps_expr (pe_bm PySem.F.plainAttrs_list PySem.F.slot_list_append PySem.F.type_list_append mt_append (pv 3) (pa_cons (pv 4) pa_nil)))
        (pss_one (ps_setLc (i := 2) (own := [("place", 5)]) (g := gName 5) (by rfl) scGroups.nd rfl rfl (sw_true rfl rfl rfl (by decide +kernel)) (pi_list (pv 2)) (blkOk_by (N := nGroups) (sc := defScope s_groups_without) (by decide +kernel)) (fun _ _ _ _ _ => pg_name (i := 5) scGroups.nd rfl (.inl rfl))
          (fun _ _ _ _ _ => pts_one (pt_cmpR (r := rIn K true) op_notIn_seq (pv 5) (pv 4) (by with_unfolding_all rfl))) (fun _ _ _ _ _ => pv 5))))))
      (pss_one (ps_ret (pv 3))))), ?_⟩
    obtain ⟨dx, tl, td, dg, g1, g2, g3, g4⟩ := id hy
    refine ⟨_, rfl, y, dx, _, rfl, g1, look_no n tl td dg (by decide +kernel) (by decide +kernel) (by decide +kernel) (by decide +kernel), y, n, ps, rfl, hy, (n : Int), rfl, by omega, by omega, fun D nD => ?_⟩
    rw [Int.toNat_natCast]
    have pk : ∀ H', (∀ b o, H b = some o → H' b = some o) → (SqL K H' p (gone.map V.int) ∨ SqT K H' p (gone.map V.int)) := fun H' k => hp.elim (fun h => .inl (SqL.of (k _ _ h))) fun h => .inr (SqT.of (k _ _ h))
    refine lc_range (lo := 0) (n := n) (fun i H1 => Kp D H H1 ∧ H1 D = some (.lst ((((upTo n).take i).filter fun x => !decide (x ∈ gone)).map V.int))) ⟨Kp.put _ _ _, upd_same⟩ ?_ ?_
    · rintro i H1 hi ⟨k1, eD⟩
      have s1 : Same H H1 := fun c o e => k1 c o (ne_of_none e nD) e
      have lf := List.length_filter_le (fun x => !decide (x ∈ gone)) ((upTo n).take i)
      rw [List.length_take] at lf
      refine ⟨rfl, _, rfl, _, rfl, p, _, rfl, pk H1 s1, rfl, flat_intsV _, _, rfl, ?_⟩
      simp only [if_true]
      rw [inV_dec, Int.zero_add]
      by_cases mem : (i : Int) ∈ gone
      · rw [decide_eq_true mem]
        refine iteF ⟨k1, ?_⟩
        rw [leftP_take n gone hi, List.filter_cons, if_neg (by rw [decide_eq_true mem]; exact Bool.false_ne_true), List.filter_nil, List.append_nil]
        exact eD
      · rw [decide_eq_false mem]
        refine iteT ⟨_, rfl, _, eD, ?_, k1.trans (Kp.put _ _ _), ?_⟩
        · rw [List.length_map]
          exact small1000 (by omega)
        · rw [upd_same, leftP_take n gone hi, List.filter_cons, if_pos (by rw [decide_eq_false mem]; rfl), List.filter_nil, List.map_append]
          rfl
    · rintro H1 ⟨k1, eD⟩
      have s1 : Same H H1 := fun c o e => k1 c o (ne_of_none e nD) e
      have e0 : (upTo n).take n = upTo n := by rw [List.take_of_length_le (by rw [upTo_len]; exact Nat.le_refl _)]
      rw [e0] at eD
      have eD : OrdAt H1 D (leftP n gone) := eD
      have ll : (leftP n gone).length ≤ n := by
        have := List.length_filter_le (fun x => !decide (x ∈ gone)) (upTo n)
        rwa [upTo_len] at this
      refine ⟨by show 0 ≤ sizeLine; decide, fun r nr => ?_⟩
      have s2 := same_new (o := .lst []) nr
      have nr0 : H r = none := s1.free nr
      refine ⟨fun m σ H2 => ∃ (L : List Int) (l : Addr) (gs : List (List Int)) (as : List Addr) (x4 : Option V), m = L.length ∧ σ = [some (.ref y), some (.ref p), some (.ref l), some (.ref r), x4, none] ∧ Kp r H1 H2 ∧ OrdAt H2 l L ∧ l ≠ r ∧ L.Pairwise (· < ·) ∧ L.length ≤ n ∧ H2 r = some (.lst (as.map V.ref)) ∧
          OrdsAs H2 as gs ∧ (∀ a ∈ as, H a = none ∧ a ≠ r) ∧ groupsOf n ps gone = gs ++ groupsF ps L.length L ∧ gs.length + L.length ≤ n,
        ⟨_, leftP n gone, D, [], [], none, rfl, rfl, Kp.put _ _ _, s2 _ _ eD, ne_of_none eD nr, leftP_lt n gone, ll, upd_same, .nil, (fun a ha => by cases ha), ?_, by simpa using ll⟩, ?_⟩
      · rw [List.nil_append]
        exact groupsF_at ll
      rintro m σ H2 ⟨L, l, gs, as, x4, rfl, rfl, kp, ol, lr, lt, few, er, oa, fr, eq, cnt_⟩
      have s12 : Same H1 H2 := fun c o e => kp c o (ne_of_none e nr) e
      refine ⟨_, rfl, _, .inl ⟨_, ol.sq, rfl⟩, ?_⟩
      cases L with
      | nil =>
        refine iteF ?_
        refine ⟨_, rfl, q H2 r as (s1.trans s12) nr0 er fr ?_⟩
        rw [eq]
        show OrdsAs H2 as (gs ++ [])
        rw [List.append_nil]
        exact oa
      | cons a others =>
        refine iteT ⟨_, fun σ' H' h => h, ?_⟩
        refine ⟨_, rfl, _, rfl, l, _, _, _, rfl, rfl, ol.sq, atI_nat (j := 0) rfl, _, rfl, _, rfl, l, _, rfl, ol.sq, fun l2 nl2 => ?_⟩
        have s3 := same_new (o := .lst (cutV ((a :: others).map V.int) (some 1) none)) nl2
        have eo : OrdAt (upd H2 l2 (.lst (cutV ((a :: others).map V.int) (some 1) none))) l2 others := by
          show upd _ _ _ _ = _
          rw [upd_same]
          congr 2
          exact cut_from ((a :: others).map V.int) 1
        have hy2 := (hy.same s1).same s12
        refine ⟨y, l2, n, ps, a, others, rfl, hy2.same s3, eo, lt, by simp at few; omega, fun H3 g s4 ng og => ?_⟩
        have s24 := s3.trans s4
        have er3 := s24 _ _ er
        have ol3 := ol.same s24
        have ng2 : H2 g = none := s3.free ng
        have lg := oa.length
        have rg : r ≠ g := ne_of_none er ng2
        refine ⟨_, rfl, .inl ⟨rfl, _, SqL.of er3⟩, _, rfl, r, _, _, rfl, rfl, er3, ?_, ?_⟩
        · rw [List.length_map]
          simp at cnt_
          exact small1000 (by omega)
        have kp4 : Kp r H1 (upd H3 r (.lst (as.map V.ref ++ [.ref g]))) := fun c o nc e => by
          rw [upd_ne nc]
          exact s24 _ _ (kp _ _ nc e)
        have er4 : upd H3 r (.lst (as.map V.ref ++ [.ref g])) r = some (.lst ((as ++ [g]).map V.ref)) := by
          rw [upd_same, List.map_append]
          rfl
        have ol4 : OrdAt (upd H3 r (.lst (as.map V.ref ++ [.ref g]))) l (a :: others) := (upd_ne lr).trans ol3
        have og4 : OrdAt (upd H3 r (.lst (as.map V.ref ++ [.ref g]))) g (compOf ps (a :: others) a) := (upd_ne (Ne.symm rg)).trans og
        have oa4 : OrdsAs (upd H3 r (.lst (as.map V.ref ++ [.ref g]))) (as ++ [g]) (gs ++ [compOf ps (a :: others) a]) := OrdsAs.snoc (oa.keep fun b hb o e => (upd_ne (fr b hb).2).trans (s24 _ _ e)) og4
        have fr4 : ∀ b ∈ as ++ [g], H b = none ∧ b ≠ r := fun b hb => by
          rcases List.mem_append.mp hb with h | h
          · exact fr b h
          · rw [List.mem_singleton.mp h]
            exact ⟨(s1.trans s12).free ng2, Ne.symm rg⟩
        generalize upd H3 r (.lst (as.map V.ref ++ [.ref g])) = H4 at kp4 er4 ol4 og4 oa4 fr4
        refine ⟨_, rfl, l, rfl, ⟨_, ol4.sq⟩, fun D2 nD2 => ?_⟩
        have lD : l ≠ D2 := ne_of_none ol4 nD2
        have gD : g ≠ D2 := ne_of_none og4 nD2
        have rD : r ≠ D2 := ne_of_none er4 nD2
        refine lc_list (K := K) (a := l) (xs := (a :: others).map V.int) (fun i H5 => Kp D2 H4 H5 ∧ H5 D2 = some (.lst ((((a :: others).take i).filter fun x => !decide (x ∈ compOf ps (a :: others) a)).map V.int))) ⟨Kp.put _ _ _, upd_same⟩ (fun i H5 _ ⟨k5, _⟩ => SqL.of (k5 _ _ lD ol4)) ?_ ?_
        · rintro i v H5 hv ⟨k5, eD5⟩
          obtain ⟨z, rfl⟩ := ints_at hv
          have hz : (a :: others)[i]? = some z := by
            rw [List.getElem?_map] at hv
            cases e : (a :: others)[i]? with
            | none =>
              rw [e] at hv
              cases hv
            | some u =>
              rw [e] at hv
              injection hv with hv
              injection hv with hv
              rw [hv]
          have tk : (a :: others).take (i + 1) = (a :: others).take i ++ [z] := by
            rw [List.take_succ, hz]
            rfl
          have lf := List.length_filter_le (fun x => !decide (x ∈ compOf ps (a :: others) a)) ((a :: others).take i)
          rw [List.length_take] at lf
          refine ⟨rfl, _, rfl, _, rfl, g, _, rfl, .inl (SqL.of (k5 _ _ gD og4)), rfl, flat_intsV _, _, rfl, ?_⟩
          simp only [if_true]
          rw [inV_dec]
          by_cases mem : z ∈ compOf ps (a :: others) a
          · rw [decide_eq_true mem]
            refine iteF ⟨k5, ?_⟩
            rw [tk, List.filter_append, List.filter_cons, if_neg (by rw [decide_eq_true mem]; exact Bool.false_ne_true), List.filter_nil, List.append_nil]
            exact eD5
          · rw [decide_eq_false mem]
            refine iteT ⟨_, rfl, _, eD5, ?_, k5.trans (Kp.put _ _ _), ?_⟩
            · rw [List.length_map]
              exact small1000 (by omega)
            · rw [upd_same, tk, List.filter_append, List.filter_cons, if_pos (by rw [decide_eq_false mem]; rfl), List.filter_nil, List.map_append]
              rfl
        · rintro H5 ⟨k5, eD5⟩
          rw [List.length_map, List.take_length] at eD5
          have s5 : Same H4 H5 := fun c o e => k5 c o (ne_of_none e nD2) e
          have less := left_less (ps := ps) (a := a) (l := others)
          simp at few cnt_
          refine ⟨_, by simp; omega, _, D2, gs ++ [compOf ps (a :: others) a], as ++ [g], _, rfl, rfl, fun c o nc e => s5 _ _ (kp4 _ _ nc e), eD5, Ne.symm rD, lt.filter _, by omega, s5 _ _ er4, oa4.same s5, fr4, ?_, by simp; omega⟩
          rw [eq, groupsF_cons, List.append_assoc]
          rfl
/-! #### parting -/
theorem partGo_succ (n : Nat) (ps : List (Int × Int)) (c k : Nat) : partGo n ps (c + 1) k = match partIn n ps k with
    | some js => some js
    | none => partGo n ps c (k + 1) := rfl
def spParting (C : Addr) : Sp := fun vs H Q _ => ∃ (y : Addr) (n : Nat) (ps : List (Int × Int)), vs = [.ref y] ∧ YardAt C H y n ps ∧ n ≤ 12 ∧
  ∀ H', Same H H' → (partingOf n ps = none → Q .non H') ∧ (∀ r js, partingOf n ps = some js → H r = none → OrdAt H' r (ofN js) → Q (.ref r) H')
abbrev nParting : List Str := ["yard", "many", "size", "places"]
theorem scParting : FnScope nParting ["yard"] (defScope s_parting) := ⟨rfl, rfl, rfl, by decide +kernel, rfl, by decide +kernel, by decide +kernel⟩
theorem has_parting (D : IsDef K mg "parting" s_parting) (B : Blt mg) (cb : mg "combinations" = some (.type "itertools.combinations")) (T : YTxt K mg C) (M : HasM P w K mg base C 1 "many" ["self"] (spMany C)) (CS : Has P w K mg base 2 "check_searched" ["yard"] (spSearched C)) (GW : Has P w K mg base 3 "groups_without" ["yard", "places"] (spGroups C)) :
    Has P w K mg base 4 "parting" ["yard"] (spParting C) := by
  refine has_of D scParting (fun _ _ _ _ _ _ us hl => match us, hl with | [_], _ => rfl) (fun vs H Q E h => ?_) (fun f cdv A outer s H vs Q E hr h => ?_)
  · obtain ⟨y, n, ps, rfl, _⟩ := h
    rfl
  · obtain ⟨y, n, ps, rfl, hy, n12, q⟩ := h
    refine ⟨_, pss_cons (ps_expr (pe_has CS hr (by decide) (by rfl) (pa_cons (pv 0) pa_nil)))
      (pss_cons (ps_set (i := 1) scParting.nd rfl (.inl rfl) (pe_hasM0 (pv 0) T.cl M hr (by decide)))
      (pss_cons (ps_for PassesOwn.never rfl (pi_range2 (by rfl) B.range (pa_cons pe_int (pa_cons (pe_op op_fdivN (pe_op op_add (pv 1) pe_int) pe_int) pa_nil))) (pg_name (i := 2) scParting.nd rfl (.inl rfl))
        (pss_one (ps_for PassesOwn.never rfl (pi_comb rfl (by rfl) cb (by rfl) B.range (pv 1) (pv 2)) (pg_name (i := 3) scParting.nd rfl (.inl rfl))
          (pss_one (ps_if (pt_cmpR op_gt (pe_callB call_len_seq (by rfl) B.len PySem.boot_len (pa_cons (pe_has GW hr (by decide) (by rfl) (pa_cons (pv 0) (pa_cons (pv 3) pa_nil))) pa_nil)) (pv 2) (nomark _))
            (pss_one (ps_ret (pe_callTy call_list_of (by rfl) B.list (by decide +kernel) (pa_cons (pv 3) pa_nil)))) pss_nil)))))
      (pss_one (ps_ret pe_non)))), ?_⟩
    obtain ⟨dx, tl, td, dg, g1, g2, g3, g4⟩ := id hy
    refine ⟨_, rfl, y, n, ps, rfl, hy, n12, ?_⟩
    refine ⟨_, rfl, y, dx, _, rfl, g1, look_no n tl td dg (by decide +kernel) (by decide +kernel) (by decide +kernel) (by decide +kernel), y, n, ps, rfl, hy, ?_⟩
    refine ⟨_, rfl, _, _, rfl, rfl, _, _, rfl, rfl, ⟨by decide, by decide⟩, ?_⟩
    have ef : ((n : Int) + 1).fdiv 2 = (((n + 1) / 2 : Nat) : Int) := by
      rw [Int.fdiv_eq_ediv_of_nonneg _ (by decide)]
      omega
    obtain ⟨c, hc⟩ : ∃ c, (n + 1) / 2 = c := ⟨_, rfl⟩
    have c12 : c ≤ 6 := by omega
    rw [hc] at ef
    refine ⟨1, (c : Nat), congrArg (fun z : Int => [V.int 1, V.int z]) ef, ⟨by omega, by omega, by omega, by omega⟩, ?_⟩
    have e0 : ((c : Int) - 1).toNat = c - 1 := by omega
    rw [e0]
    refine for_range (lo := 1) (n := c - 1) (fun i σ H1 => ∃ x2 x3 : Option V, σ = [some (.ref y), some (.int (n : Int)), x2, x3] ∧ Same H H1 ∧ partingOf n ps = partGo n ps (c - 1 - i) (1 + i)) ⟨none, none, rfl, Same.refl _, by unfold partingOf; rw [hc]; rfl⟩ ?_ ?_
    · rintro i σ H1 hi ⟨x2, x3, rfl, s1, eq⟩
      have esuc : c - 1 - i = (c - 1 - (i + 1)) + 1 := by omega
      rw [esuc, partGo_succ] at eq
      refine ⟨_, rfl, n, rfl, by omega, _, rfl, 1 + i, rfl, by omega, ?_⟩
      refine for_comb (n := n) (k := 1 + i) (fun j σ H2 => ∃ x3 : Option V, σ = [some (.ref y), some (.int (n : Int)), some (.int (1 + (i : Int))), x3] ∧ Same H H2 ∧ partIn n ps (1 + i) = ((combF (1 + i) n 0).drop j).find? fun js => decide (1 + i < (groupsOf n ps (ofN js)).length)) ⟨x3, rfl, s1, rfl⟩ ?_ ?_
      · rintro j js σ H2 T0 hj ⟨x3, rfl, s2, eqj⟩ nT
        have sT := same_new (o := .tup (js.map fun j => V.int (j : Nat))) nT
        have eT : TupAt (upd H2 T0 (.tup (js.map fun j => V.int (j : Nat)))) T0 (ofN js) := by
          show upd _ _ _ _ = _
          rw [upd_same]
          unfold ofN
          rw [List.map_map]
          rfl
        have s3 := s2.trans sT
        generalize upd H2 T0 (.tup (js.map fun j => V.int (j : Nat))) = H3 at eT s3
        have dj : (combF (1 + i) n 0).drop j = js :: (combF (1 + i) n 0).drop (j + 1) := by
          obtain ⟨hlt, e⟩ := List.getElem?_eq_some_iff.mp hj
          rw [List.drop_eq_getElem_cons hlt, e]
        rw [dj, List.find?_cons] at eqj
        refine ⟨_, rfl, _, rfl, y, T0, n, ps, ofN js, rfl, hy.same s3, .inr eT, by omega, fun H4 r as s4 nr er fr oa => ?_⟩
        have la := oa.length
        refine ⟨r, _, rfl, .inl (SqL.of er), _, rfl, _, _, rfl, rfl, _, rfl, ?_⟩
        rw [List.length_map, la]
        have s34 := s3.trans s4
        by_cases big : 1 + i < (groupsOf n ps (ofN js)).length
        · rw [decide_eq_true (by omega)]
          rw [decide_eq_true big] at eqj
          refine iteT ?_
          have eT4 := TupAt.same eT s4
          refine ⟨_, rfl, T0, _, rfl, .inr (SqT.of eT4), fun r2 nr2 => ?_⟩
          have eqj : partIn n ps (1 + i) = some js := eqj
          rw [eqj] at eq
          exact (q _ (s34.trans (same_new nr2))).2 r2 js eq (s34.free nr2) upd_same
        · rw [decide_eq_false (by omega)]
          rw [decide_eq_false big] at eqj
          exact iteF ⟨_, rfl, s34, eqj⟩
      · rintro σ H2 ⟨x3, rfl, s2, eqj⟩
        rw [List.drop_length] at eqj
        have eqj : partIn n ps (1 + i) = none := eqj
        rw [eqj] at eq
        exact ⟨_, _, rfl, s2, eq⟩
    · rintro σ H1 ⟨x2, x3, rfl, s1, eq⟩
      rw [Nat.sub_self] at eq
      exact (q H1 s1).1 eq
end
end DR

set_option Elab.async false
set_option linter.all false
set_option maxRecDepth 100000
set_option maxHeartbeats 4000000
namespace DR
open PySem PySem.Spec PyProof.Rows L2
section
variable {P : Program} {w : World} {K : PySem.W.Frag} {mg : Str → Option Value} {base : Heap} {C : Addr}
/-! #### counted -/
def spCounted (C : Addr) : Sp := fun vs H Q _ => ∃ (y : Addr) (n : Nat) (ps : List (Int × Int)), vs = [.ref y] ∧ YardAt C H y n ps ∧ 1 ≤ n ∧ n ≤ 12 ∧ ∀ H', Same H H' → Q (.int (countedOf n ps : Nat)) H'
theorem scCounted : FnScope ["yard"] ["yard"] (defScope s_counted) := ⟨rfl, rfl, rfl, by decide +kernel, rfl, by decide +kernel, by decide +kernel⟩
theorem has_counted (D : IsDef K mg "counted" s_counted) (B : Blt mg) (T : YTxt K mg C) (M : HasM P w K mg base C 1 "many" ["self"] (spMany C)) (CS : Has P w K mg base 2 "check_searched" ["yard"] (spSearched C)) (WH : ∀ k : Nat, Has P w K mg base (k + 2) "ways_home" ["yard", "known", "place", "left"] (spWays P w C k)) :
    Has P w K mg base 14 "counted" ["yard"] (spCounted C) := by
  refine has_of D scCounted (fun _ _ _ _ _ _ us hl => match us, hl with | [_], _ => rfl) (fun vs H Q E h => ?_) (fun f cdv A outer s H vs Q E hr h => ?_)
  · obtain ⟨y, n, ps, rfl, _⟩ := h
    rfl
  · obtain ⟨y, n, ps, rfl, hy, n1, n12, q⟩ := h
    have W := (WH (n - 1)).up (show n - 1 + 2 ≤ 13 by omega)
    refine ⟨_, pss_cons (ps_expr (pe_has CS hr (by decide) (by rfl) (pa_cons (pv 0) pa_nil)))
      (pss_cons (ps_if (pt_cmpR op_lt (pe_hasM0 (pv 0) T.cl M hr (by decide)) pe_int (nomark _)) (pss_one (ps_ret pe_int)) pss_nil)
      (pss_one (ps_ret (pe_op op_fdivN (pe_has W hr (by decide) (by rfl) (pa_cons (pv 0) (pa_cons pe_dnewN (pa_cons pe_int (pa_cons (pe_tupRg rfl (by rfl) B.tuple (prg_2 (by rfl) B.range pe_int (pe_hasM0 (pv 0) T.cl M hr (by decide)))) pa_nil))))) pe_int)))), ?_⟩
    obtain ⟨dx, l, td, dg, h1, h2, h3, h4⟩ := id hy
    refine ⟨_, rfl, y, n, ps, rfl, hy, n12, ?_⟩
    refine ⟨_, rfl, y, dx, _, rfl, h1, look_no n l td dg (by decide +kernel) (by decide +kernel) (by decide +kernel) (by decide +kernel), y, n, ps, rfl, hy, _, _, rfl, rfl, _, rfl, ?_⟩
    by_cases c : n < 3
    · rw [decide_eq_true (show (n : Int) < 3 by omega)]
      have q' := q H (Same.refl _)
      unfold countedOf at q'
      rw [if_pos c] at q'
      exact iteT q'
    · rw [decide_eq_false (show ¬ (n : Int) < 3 by omega)]
      refine iteF ?_
      refine ⟨_, rfl, fun d nd => ?_⟩
      have sd := same_new (o := NestO P w d []) nd
      have hy1 := hy.same sd
      obtain ⟨dx, l, td, dg, h1, h2, h3, h4⟩ := id hy1
      refine ⟨_, rfl, y, dx, _, rfl, h1, look_no n l td dg (by decide +kernel) (by decide +kernel) (by decide +kernel) (by decide +kernel), y, n, ps, rfl, hy1, 1, (n : Int), rfl, rfl, RgOk.of_le (by omega) (by omega) (by omega) (by omega), fun t nt => ?_⟩
      rw [rgV_rest n1]
      have st := same_new (o := .tup (((upTo n).drop 1).map V.int)) nt
      refine ⟨y, d, t, n, ps, 0, (upTo n).drop 1, [], rfl, hy1.same st, n12, memo_new.same st, MemoOk.nil n ps, upd_same, rest_len n, List.drop_sublist _ _, upTo_mem.mpr (by omega), fun H' m' kp _ _ _ => ?_⟩
      refine ⟨_, _, rfl, rfl, ⟨by decide, by decide⟩, ?_⟩
      have q' := q H' fun b o e => kp _ _ (ne_of_none e nd) (st _ _ (sd _ _ e))
      unfold countedOf at q'
      rw [if_neg c] at q'
      have e : ((waysOf ps (n - 1) 0 ((upTo n).drop 1) : Nat) : Int).fdiv 2 = ((waysOf ps (n - 1) 0 ((upTo n).drop 1) / 2 : Nat) : Int) := by
        rw [Int.fdiv_eq_ediv_of_nonneg _ (by decide)]
        rfl
      show Q (.int (((waysOf ps (n - 1) 0 ((upTo n).drop 1) : Nat) : Int).fdiv 2)) H'
      rw [e]
      exact q'
end
end DR

set_option Elab.async false
set_option linter.all false
set_option maxRecDepth 100000
set_option maxHeartbeats 4000000
/-! ### what is said of ties: the mathematics -/
namespace DR
open PySem PySem.Spec PyProof.Rows L2
def row (L : List (List Int)) (p : Int) : List Int := L.getD p.toNat []
def cutRow (a b : Int) (l : List Int) : List Int := l.filter fun x => !decide (x ∈ [a, b])
def outOf (U : List (List Int)) (a b : Int) : List (List Int) := (U.set a.toNat (cutRow a b (row U a))).set b.toNat (cutRow a b (row (U.set a.toNat (cutRow a b (row U a))) b))
def inOf (I : List (List Int)) (a b : Int) : List (List Int) := (I.set a.toNat (row I a ++ [b])).set b.toNat (row (I.set a.toNat (row I a ++ [b])) b ++ [a])
structure SaidOk (n : Nat) (I U : List (List Int)) : Prop where
  li : I.length = n
  lu : U.length = n
  ri : ∀ p j : Int, 0 ≤ p → p < n → j ∈ row I p → 0 ≤ j ∧ j < n ∧ j ≠ p
  ru : ∀ p j : Int, 0 ≤ p → p < n → j ∈ row U p → 0 ≤ j ∧ j < n ∧ j ≠ p
  si : ∀ p j : Int, 0 ≤ p → p < n → j ∈ row I p → p ∈ row I j
  su : ∀ p j : Int, 0 ≤ p → p < n → j ∈ row U p → p ∈ row U j
  ni : ∀ p : Int, 0 ≤ p → p < n → (row I p).Nodup
  nu : ∀ p : Int, 0 ≤ p → p < n → (row U p).Nodup
  dj : ∀ p j : Int, 0 ≤ p → p < n → j ∈ row U p → j ∉ row I p
theorem row_set {L : List (List Int)} {a p : Int} {l : List Int} (h0 : 0 ≤ a) (h1 : a < L.length) (hp : 0 ≤ p) : row (L.set a.toNat l) p = if p = a then l else row L p := by
  unfold row
  rw [List.getD_eq_getElem?_getD, List.getElem?_set]
  by_cases c : p = a
  · subst c
    rw [if_pos rfl, if_pos (by omega), if_pos rfl]
    rfl
  · rw [if_neg (by omega), if_neg c, List.getD_eq_getElem?_getD]
section
variable {n : Nat} {I U : List (List Int)} {a b : Int}
theorem SaidOk.few (ok : SaidOk n I U) {p : Int} (h0 : 0 ≤ p) (h1 : p < n) : (row I p).length ≤ n ∧ (row U p).length ≤ n := by
  have key : ∀ l : List Int, l.Nodup → (∀ x ∈ l, 0 ≤ x ∧ x < n) → l.length ≤ n := fun l nd h => by
    have := nodup_le l (upTo n) nd fun x hx => upTo_mem.mpr (h x hx)
    rwa [upTo_len] at this
  exact ⟨key _ (ok.ni p h0 h1) fun x hx => ⟨(ok.ri p x h0 h1 hx).1, (ok.ri p x h0 h1 hx).2.1⟩, key _ (ok.nu p h0 h1) fun x hx => ⟨(ok.ru p x h0 h1 hx).1, (ok.ru p x h0 h1 hx).2.1⟩⟩
theorem row_out (ok : SaidOk n I U) (a0 : 0 ≤ a) (a1 : a < n) (hb : b ∈ row U a) {p : Int} (p0 : 0 ≤ p) (p1 : p < n) : row (outOf U a b) p = (row U p).filter fun x => !decide ((p = a ∧ x = b) ∨ (p = b ∧ x = a)) := by
  obtain ⟨b0, b1, ba⟩ := ok.ru a b a0 a1 hb
  have lu := ok.lu
  unfold outOf
  rw [row_set b0 (by rw [List.length_set]; omega) p0, row_set a0 (by omega) b0, row_set a0 (by omega) p0, if_neg ba]
  by_cases c : p = b
  · subst c
    rw [if_pos rfl]
    unfold cutRow
    refine List.filter_congr fun x hx => ?_
    have := (ok.ru p x p0 p1 hx).2.2
    by_cases e : x = a <;> simp [e, this, ba]
  · rw [if_neg c]
    by_cases c2 : p = a
    · subst c2
      rw [if_pos rfl]
      unfold cutRow
      refine List.filter_congr fun x hx => ?_
      have := (ok.ru p x p0 p1 hx).2.2
      by_cases e : x = b <;> simp [e, this, c]
    · rw [if_neg c2]
      exact (List.filter_eq_self.mpr fun x _ => by simp [c, c2]).symm
theorem mem_out (ok : SaidOk n I U) (a0 : 0 ≤ a) (a1 : a < n) (hb : b ∈ row U a) {p x : Int} (p0 : 0 ≤ p) (p1 : p < n) : x ∈ row (outOf U a b) p ↔ x ∈ row U p ∧ ¬ ((p = a ∧ x = b) ∨ (p = b ∧ x = a)) := by
  rw [row_out ok a0 a1 hb p0 p1, List.mem_filter]
  refine and_congr_right fun _ => ?_
  rw [Bool.not_eq_true', decide_eq_false_iff_not]
theorem row_in (ok : SaidOk n I U) (a0 : 0 ≤ a) (a1 : a < n) (hb : b ∈ row U a) {p : Int} (p0 : 0 ≤ p) : row (inOf I a b) p = if p = b then row I b ++ [a] else if p = a then row I a ++ [b] else row I p := by
  obtain ⟨b0, b1, ba⟩ := ok.ru a b a0 a1 hb
  have li := ok.li
  unfold inOf
  rw [row_set b0 (by rw [List.length_set]; omega) p0, row_set a0 (by omega) b0, row_set a0 (by omega) p0, if_neg ba]
theorem mem_in (ok : SaidOk n I U) (a0 : 0 ≤ a) (a1 : a < n) (hb : b ∈ row U a) {p x : Int} (p0 : 0 ≤ p) : x ∈ row (inOf I a b) p ↔ x ∈ row I p ∨ (p = a ∧ x = b) ∨ (p = b ∧ x = a) := by
  obtain ⟨b0, b1, ba⟩ := ok.ru a b a0 a1 hb
  rw [row_in ok a0 a1 hb p0]
  by_cases c : p = b
  · subst c
    rw [if_pos rfl, List.mem_append, List.mem_singleton]
    simp [ba]
  · rw [if_neg c]
    by_cases c2 : p = a
    · subst c2
      rw [if_pos rfl, List.mem_append, List.mem_singleton]
      simp [c]
    · rw [if_neg c2]
      simp [c, c2]
theorem SaidOk.out (ok : SaidOk n I U) (a0 : 0 ≤ a) (a1 : a < n) (hb : b ∈ row U a) : SaidOk n I (outOf U a b) := by
  have m := fun {p x : Int} (p0 : 0 ≤ p) (p1 : p < n) => mem_out (p := p) (x := x) ok a0 a1 hb p0 p1
  refine ⟨ok.li, by unfold outOf; rw [List.length_set, List.length_set, ok.lu], ok.ri, fun p j p0 p1 h => ok.ru p j p0 p1 ((m p0 p1).mp h).1, ok.si, fun p j p0 p1 h => ?_, ok.ni, fun p p0 p1 => ?_, fun p j p0 p1 h => ok.dj p j p0 p1 ((m p0 p1).mp h).1⟩
  · obtain ⟨h1, h2⟩ := (m p0 p1).mp h
    obtain ⟨j0, j1, _⟩ := ok.ru p j p0 p1 h1
    refine (m j0 j1).mpr ⟨ok.su p j p0 p1 h1, fun z => h2 ?_⟩
    rcases z with ⟨e1, e2⟩ | ⟨e1, e2⟩
    · exact .inr ⟨e2, e1⟩
    · exact .inl ⟨e2, e1⟩
  · rw [row_out ok a0 a1 hb p0 p1]
    exact (ok.nu p p0 p1).filter _
theorem SaidOk.inn (ok : SaidOk n I U) (a0 : 0 ≤ a) (a1 : a < n) (hb : b ∈ row U a) : SaidOk n (inOf I a b) (outOf U a b) := by
  have o := ok.out a0 a1 hb
  obtain ⟨b0, b1, ba⟩ := ok.ru a b a0 a1 hb
  have m := fun {p x : Int} (p0 : 0 ≤ p) => mem_in (p := p) (x := x) ok a0 a1 hb p0
  refine ⟨by unfold inOf; rw [List.length_set, List.length_set, ok.li], o.lu, fun p j p0 p1 h => ?_, o.ru, fun p j p0 p1 h => ?_, o.su, fun p p0 p1 => ?_, o.nu, fun p j p0 p1 h z => ?_⟩
  · rcases (m p0).mp h with h | ⟨e1, e2⟩ | ⟨e1, e2⟩
    · exact ok.ri p j p0 p1 h
    · subst e1 e2
      exact ⟨b0, b1, ba⟩
    · subst e1 e2
      exact ⟨a0, a1, Ne.symm ba⟩
  · rcases (m p0).mp h with h | ⟨e1, e2⟩ | ⟨e1, e2⟩
    · exact (m (ok.ri p j p0 p1 h).1).mpr (.inl (ok.si p j p0 p1 h))
    · subst e1 e2
      exact (m b0).mpr (.inr (.inr ⟨rfl, rfl⟩))
    · subst e1 e2
      exact (m a0).mpr (.inr (.inl ⟨rfl, rfl⟩))
  · have app : ∀ (l : List Int) (x : Int), l.Nodup → x ∉ l → (l ++ [x]).Nodup := fun l x nd h => by
      rw [List.nodup_append]
      refine ⟨nd, by simp, fun y hy z hz e => ?_⟩
      rw [List.mem_singleton.mp hz] at e
      exact h (e ▸ hy)
    rw [row_in ok a0 a1 hb p0]
    by_cases c : p = b
    · rw [if_pos c]
      exact app _ _ (ok.ni b b0 b1) (ok.dj b a b0 b1 (ok.su a b a0 a1 hb))
    · rw [if_neg c]
      by_cases c2 : p = a
      · rw [if_pos c2]
        exact app _ _ (ok.ni a a0 a1) (ok.dj a b a0 a1 hb)
      · rw [if_neg c2]
        exact ok.ni p p0 p1
  · obtain ⟨h1, h2⟩ := (mem_out ok a0 a1 hb p0 p1).mp h
    rcases (m p0).mp z with z | z
    · exact ok.dj p j p0 p1 h1 z
    · exact h2 z
/-- how many are unsaid, each twice -/
def totU (n : Nat) (U : List (List Int)) : Nat := ((List.range n).map fun i : Nat => (row U (i : Int)).length).sum
theorem sum_one {a : Nat} : ∀ {n : Nat}, a < n → ((List.range n).map fun i => if i = a then 1 else 0).sum = 1
  | 0, h => by omega
  | n + 1, h => by
    rw [List.range_succ, List.map_append, List.sum_append]
    by_cases c : a < n
    · rw [sum_one c]
      simp
      omega
    · have e : a = n := by omega
      subst e
      have z : ((List.range a).map fun i => if i = a then 1 else 0) = (List.range a).map fun _ => 0 := List.map_congr_left fun i hi => if_neg (by have := List.mem_range.mp hi; omega)
      rw [z]
      have : ∀ k : Nat, ((List.range k).map fun _ => 0).sum = 0 := fun k => by
        induction k with
        | zero => rfl
        | succ k ih =>
          rw [List.range_succ, List.map_append, List.sum_append, ih]
          rfl
      rw [this]
      simp
theorem sum_le {f g : Nat → Nat} : ∀ {l : List Nat}, (∀ i ∈ l, f i ≤ g i) → (l.map f).sum ≤ (l.map g).sum
  | [], _ => Nat.le_refl _
  | a :: l, h => by
    have h1 := h a (by simp)
    have h2 := sum_le (l := l) fun i hi => h i (by simp [hi])
    simp only [List.map_cons, List.sum_cons]
    omega
theorem sum_add3 {f g k : Nat → Nat} : ∀ {l : List Nat}, (l.map fun i => f i + g i + k i).sum = (l.map f).sum + (l.map g).sum + (l.map k).sum
  | [] => rfl
  | a :: l => by
    simp only [List.map_cons, List.sum_cons]
    rw [sum_add3 (l := l)]
    omega
theorem out_less {l : List Int} {x : Int} {p : Int → Bool} (h : x ∈ l) (hp : p x = false) : (l.filter p).length + 1 ≤ l.length := by
  induction l with
  | nil => cases h
  | cons y l ih =>
    rw [List.filter_cons]
    rcases List.mem_cons.mp h with e | e
    · subst e
      rw [if_neg (by rw [hp]; exact Bool.false_ne_true)]
      have := List.length_filter_le p l
      simp
      omega
    · have := ih e
      split
      · simp
        omega
      · simp
        omega
theorem tot_out (ok : SaidOk n I U) (a0 : 0 ≤ a) (a1 : a < n) (hb : b ∈ row U a) : totU n (outOf U a b) + 2 ≤ totU n U := by
  obtain ⟨b0, b1, ba⟩ := ok.ru a b a0 a1 hb
  have s1 := sum_one (a := a.toNat) (n := n) (by omega)
  have s2 := sum_one (a := b.toNat) (n := n) (by omega)
  have e := sum_add3 (f := fun i : Nat => (row (outOf U a b) (i : Int)).length) (g := fun i => if i = a.toNat then 1 else 0) (k := fun i => if i = b.toNat then 1 else 0) (l := List.range n)
  have le := sum_le (f := fun i : Nat => (row (outOf U a b) (i : Int)).length + (if i = a.toNat then 1 else 0) + (if i = b.toNat then 1 else 0)) (g := fun i : Nat => (row U (i : Int)).length) (l := List.range n) fun i hi => by
    have hi := List.mem_range.mp hi
    rw [row_out ok a0 a1 hb (Int.natCast_nonneg i) (by omega)]
    by_cases c : (i : Int) = a
    · have hb' : b ∈ row U (i : Int) := by
        rw [c]
        exact hb
      have := out_less (p := fun x => !decide (((i : Int) = a ∧ x = b) ∨ ((i : Int) = b ∧ x = a))) hb' (by simp [c])
      rw [if_pos (by omega), if_neg (by omega)]
      omega
    · by_cases c2 : (i : Int) = b
      · have ha' : a ∈ row U (i : Int) := by
          rw [c2]
          exact ok.su a b a0 a1 hb
        have := out_less (p := fun x => !decide (((i : Int) = a ∧ x = b) ∨ ((i : Int) = b ∧ x = a))) ha' (by simp [c2])
        rw [if_neg (by omega), if_pos (by omega)]
        omega
      · have := List.length_filter_le (fun x => !decide (((i : Int) = a ∧ x = b) ∨ ((i : Int) = b ∧ x = a))) (row U (i : Int))
        rw [if_neg (by omega), if_neg (by omega)]
        omega
  unfold totU
  omega
/-- a way by ties that are in, on as long as it goes -/
structure IsWay (n : Nat) (I : List (List Int)) (p : Int) (w : List Int) : Prop where
  ne : 0 < w.length
  hd : w.getD 0 0 = p
  nd : w.Nodup
  rng : ∀ x ∈ w, 0 ≤ x ∧ x < n
  st : ∀ i, i + 1 < w.length → w.getD (i + 1) 0 ∈ row I (w.getD i 0)
  en : ∀ x ∈ row I (lastOf w), x ∈ w
def NoLeaf (n : Nat) (I U : List (List Int)) : Prop := (∀ p : Int, 0 ≤ p → p < n → 2 ≤ (row I p).length + (row U p).length ∧ (row I p).length ≤ 2) ∧
  ∀ p : Int, 0 ≤ p → p < n → ∃ w, IsWay n I p w ∧ ¬ ((row I p).length = 2 ∧ lastOf w ∈ row I p ∧ 2 < w.length)
theorem getM_at {w : List Int} {x : Int} (h : x ∈ w) : ∃ i, i < w.length ∧ w.getD i 0 = x := by
  obtain ⟨i, hi⟩ := List.getElem?_of_mem h
  exact ⟨i, (List.getElem?_eq_some_iff.mp hi).1, by rw [List.getD_eq_getElem?_getD, hi]; rfl⟩
theorem getM_in {w : List Int} {i : Nat} (h : i < w.length) : w.getD i 0 ∈ w := by
  rw [List.getD_eq_getElem?_getD, List.getElem?_eq_getElem h]
  exact List.getElem_mem _
theorem getM_inj {w : List Int} (nd : w.Nodup) {i j : Nat} (hi : i < w.length) (hj : j < w.length) (e : w.getD i 0 = w.getD j 0) : i = j := by
  rw [List.getD_eq_getElem?_getD, List.getD_eq_getElem?_getD, List.getElem?_eq_getElem hi, List.getElem?_eq_getElem hj] at e
  exact (List.getElem_inj nd).mp e
theorem unsaid_left (ok : SaidOk n I U) (n1 : 1 ≤ n) (nl : NoLeaf n I U) : ∃ p : Int, 0 ≤ p ∧ p < n ∧ row U p ≠ [] := by
  by_cases h : ∃ p : Int, 0 ≤ p ∧ p < n ∧ row U p ≠ []
  · exact h
  exfalso
  have two : ∀ p : Int, 0 ≤ p → p < n → (row I p).length = 2 := fun p p0 p1 => by
    have e : row U p = [] := by
      by_cases e : row U p = []
      · exact e
      · exact absurd ⟨p, p0, p1, e⟩ h
    have := nl.1 p p0 p1
    rw [e] at this
    simp at this
    omega
  obtain ⟨w, wy, no⟩ := nl.2 0 (Int.le_refl _) (by omega)
  have ne := wy.ne
  have lw : lastOf w ∈ w := getM_in (by omega)
  obtain ⟨e0, e1⟩ := wy.rng _ lw
  have key : ∀ x ∈ row I (lastOf w), ∃ i, w.getD i 0 = x ∧ i < w.length ∧ (i = 0 ∨ i + 2 = w.length) := fun x hx => by
    obtain ⟨i, hi, ei⟩ := getM_at (wy.en x hx)
    refine ⟨i, ei, hi, ?_⟩
    by_cases c0 : i = 0
    · exact .inl c0
    by_cases c1 : i + 2 = w.length
    · exact .inr c1
    exfalso
    have xe := (ok.ri _ x e0 e1 hx).2.2
    have cl : i + 1 < w.length := by
      by_cases c : i + 1 < w.length
      · exact c
      · exfalso
        apply xe
        rw [← ei]
        unfold lastOf
        congr 1
        omega
    obtain ⟨x0, x1⟩ := wy.rng x (wy.en x hx)
    have m1 : w.getD (i + 1) 0 ∈ row I x := by
      rw [← ei]
      exact wy.st i cl
    have m2 : w.getD (i - 1) 0 ∈ row I x := by
      have hp := getM_in (w := w) (i := i - 1) (by omega)
      have := wy.st (i - 1) (by omega)
      rw [show i - 1 + 1 = i by omega, ei] at this
      obtain ⟨q0, q1⟩ := wy.rng _ hp
      exact ok.si _ x q0 q1 this
    have m3 : lastOf w ∈ row I x := ok.si _ x e0 e1 hx
    have d1 : w.getD (i + 1) 0 ≠ w.getD (i - 1) 0 := fun e => by
      have := getM_inj wy.nd cl (by omega) e
      omega
    have d2 : w.getD (i + 1) 0 ≠ lastOf w := fun e => by
      have := getM_inj wy.nd cl (by omega) e
      omega
    have d3 : w.getD (i - 1) 0 ≠ lastOf w := fun e => by
      have := getM_inj wy.nd (i := i - 1) (by omega) (by omega) e
      omega
    have := nodup_le [w.getD (i + 1) 0, w.getD (i - 1) 0, lastOf w] (row I x) (by simp only [List.nodup_cons, List.mem_cons, List.not_mem_nil, or_false, not_or]; exact ⟨⟨d1, d2⟩, d3, by simp⟩) fun y hy => by
      simp only [List.mem_cons, List.not_mem_nil, or_false] at hy
      rcases hy with e | e | e
      · rw [e]
        exact m1
      · rw [e]
        exact m2
      · rw [e]
        exact m3
    rw [two x x0 x1] at this
    simp at this
  have l2 := two _ e0 e1
  have nd2 := ok.ni _ e0 e1
  match hr : row I (lastOf w), l2, nd2 with
  | [x, y], _, nd2 =>
    have xy : x ≠ y := by
      intro e
      rw [e] at nd2
      simp at nd2
    obtain ⟨i, ei, hi, ci⟩ := key x (by rw [hr]; simp)
    obtain ⟨j, ej, hj, cj⟩ := key y (by rw [hr]; simp)
    have ij : i ≠ j := fun e => xy (by rw [← ei, ← ej, e])
    have big : 2 < w.length := by omega
    have z : (0 : Int) ∈ row I (lastOf w) := by
      rw [hr]
      by_cases c : i = 0
      · have : x = 0 := by
          rw [← ei, c, wy.hd]
        rw [this]
        simp
      · have cj : j = 0 := by omega
        have : y = 0 := by
          rw [← ej, cj, wy.hd]
        rw [this]
        simp
    exact no ⟨two 0 (Int.le_refl _) (by omega), ok.si _ 0 e0 e1 z, big⟩
  | [], l2, _ => simp at l2
  | [_], l2, _ => simp at l2
  | _ :: _ :: _ :: _, l2, _ => simp at l2
end
end DR

set_option Elab.async false
set_option linter.all false
set_option maxRecDepth 100000
set_option maxHeartbeats 4000000
namespace DR
open PySem PySem.Spec PyProof.Rows L2
/-! ### the class Said -/
def sflds (li lu : Addr) : List (Str × V) := [("ins", .ref li), ("unsaid", .ref lu)]
theorem sl1 (li : Addr) : putF "ins" (.ref li) [] = [(("ins" : Str), V.ref li)] := rfl
theorem sl2 (li lu : Addr) : putF "unsaid" (.ref lu) [(("ins" : Str), V.ref li)] = sflds li lu := putF_new _ _ _ (by
  intro p hp
  simp only [List.mem_cons, List.not_mem_nil, or_false] at hp
  subst hp
  show ¬ (("ins" : Str) = "unsaid")
  decide +kernel)
theorem look_sI (li lu : Addr) : (sflds li lu).lookup ("ins" : Str) = some (.ref li) := lk_pos
theorem look_sU (li lu : Addr) : (sflds li lu).lookup ("unsaid" : Str) = some (.ref lu) := (lk_neg (by decide +kernel)).trans lk_pos
theorem look_sM (li lu : Addr) : (sflds li lu).lookup ("many_not_out" : Str) = none := (lk_neg (by decide +kernel)).trans ((lk_neg (by decide +kernel)).trans rfl)
/-- a list of lists of ints -/
def LLAt (H : Hp) (l : Addr) (L : List (List Int)) : Prop := ∃ as, H l = some (.lst (as.map V.ref)) ∧ OrdsAs H as L
theorem LLAt.same {H H' : Hp} {l : Addr} {L : List (List Int)} (h : LLAt H l L) (s : Same H H') : LLAt H' l L := by
  obtain ⟨as, e, o⟩ := h
  exact ⟨as, s _ _ e, o.same s⟩
theorem LLAt.at_ {H : Hp} {l : Addr} {L : List (List Int)} (h : LLAt H l L) {p : Int} (p0 : 0 ≤ p) (p1 : p < L.length) : ∃ xs a, H l = some (.lst xs) ∧ xs.length = L.length ∧ atI xs p = some (.ref a) ∧ OrdAt H a (row L p) := by
  obtain ⟨as, e, o⟩ := h
  have hp : p.toNat < L.length := by omega
  obtain ⟨a, ha, oa⟩ := o.at_ (i := p.toNat) (os := L[p.toNat]) (List.getElem?_eq_getElem hp)
  refine ⟨_, a, e, by rw [List.length_map, o.length], ?_, ?_⟩
  · have := atI_nat (xs := as.map V.ref) (j := p.toNat) (v := V.ref a) (by rw [List.getElem?_map, ha]; rfl)
    rwa [show ((p.toNat : Nat) : Int) = p by omega] at this
  · unfold row
    rw [List.getD_eq_getElem?_getD, List.getElem?_eq_getElem hp]
    exact oa
theorem OrdsAs.put {H : Hp} : ∀ {as : List Addr} {L : List (List Int)} {j : Nat} {D : Addr} {os : List Int}, OrdsAs H as L → OrdAt H D os → OrdsAs H (as.set j D) (L.set j os)
  | _, _, _, _, _, .nil, _ => .nil
  | _, _, 0, _, _, .cons _ t, d => .cons d t
  | _, _, j + 1, _, _, .cons r t, d => .cons r (OrdsAs.put (j := j) t d)
/-- one row of a list of lists is another list from now on -/
theorem LLAt.put {H : Hp} {l D : Addr} {L : List (List Int)} {os : List Int} {p : Int} (h : LLAt H l L) (p0 : 0 ≤ p) (p1 : p < L.length) (d : OrdAt H D os) : ∃ xs : List V, H l = some (.lst xs) ∧ ixN xs.length p = some p.toNat ∧ LLAt (upd H l (.lst (xs.set p.toNat (.ref D)))) l (L.set p.toNat os) := by
  obtain ⟨as, e, o⟩ := h
  have hl := o.length
  have ne : ∀ a os, OrdAt H a os → a ≠ l := fun a os h z => by
    subst z
    have h : H a = _ := h
    rw [e] at h
    injection h with h
    injection h with h
    have h0 : (as.map V.ref)[0]? = (os.map V.int)[0]? := by rw [h]
    have a0 : 0 < as.length := by omega
    rw [List.getElem?_map, List.getElem?_map, List.getElem?_eq_getElem a0] at h0
    cases hz : os[0]? with
    | none =>
      rw [hz] at h0
      cases h0
    | some z =>
      rw [hz] at h0
      injection h0 with h0
      cases h0
  refine ⟨_, e, ?_, as.set p.toNat D, ?_, ?_⟩
  · unfold ixN
    rw [if_pos p0, List.length_map, if_pos (by omega)]
  · rw [upd_same, List.map_set]
  · have o2 := o.put (j := p.toNat) d
    have key : ∀ {as : List Addr} {L : List (List Int)}, OrdsAs H as L → OrdsAs (upd H l (.lst ((as.map V.ref).set p.toNat (.ref D)))) as L → True := fun _ _ => trivial
    refine o2.keep fun a ha o' e' => ?_
    have : a ≠ l := by
      have pr : ∀ {as : List Addr} {L : List (List Int)}, OrdsAs H as L → ∀ a ∈ as, ∃ os, OrdAt H a os := by
        intro as L h
        induction h with
        | nil =>
          intro a ha
          cases ha
        | cons r t ih =>
          intro a ha
          rcases List.mem_cons.mp ha with z | z
          · exact ⟨_, z ▸ r⟩
          · exact ih a z
      obtain ⟨os', h'⟩ := pr o2 a ha
      exact ne a os' h'
    rw [upd_ne this]
    exact e'
def SaidAt (C : Addr) (H : Hp) (a : Addr) (I U : List (List Int)) : Prop := ∃ dx li lu, H a = some (.ins C dx (sflds li lu)) ∧ LLAt H li I ∧ LLAt H lu U
theorem SaidAt.same {C : Addr} {H H' : Hp} {a : Addr} {I U : List (List Int)} (h : SaidAt C H a I U) (s : Same H H') : SaidAt C H' a I U := by
  obtain ⟨dx, li, lu, h1, h2, h3⟩ := h
  exact ⟨dx, li, lu, s _ _ h1, h2.same s, h3.same s⟩
structure STxt (K : PySem.W.Frag) (mg : Str → Option Value) (C : Addr) : Prop where
  cl : Cls K C
  nI : NoAttr K C "ins"
  nU : NoAttr K C "unsaid"
  mgC : mg "Said" = some (.ref C)
section
variable {P : Program} {w : World} {K : PySem.W.Frag} {mg : Str → Option Value} {base : Heap} {C CS : Addr}
def spSInit (C : Addr) : Sp := fun vs H Q _ => ∃ (a dx li lu : Addr), vs = [.ref a, .ref li, .ref lu] ∧ H a = some (.ins C dx []) ∧ ∀ H', Kp a H H' → H' a = some (.ins C dx (sflds li lu)) → Q .non H'
abbrev nSInit : List Str := ["self", "ins", "unsaid"]
theorem scSInit : FnScope nSInit ["self", "ins", "unsaid"] (defScope s_Said_init) := ⟨rfl, rfl, rfl, by decide +kernel, rfl, by decide +kernel, by decide +kernel⟩
theorem has_sinit (D : IsMeth K CS "__init__" "Said.__init__" s_Said_init) (T : STxt K mg CS) : HasM P w K mg base CS 1 "__init__" ["self", "ins", "unsaid"] (spSInit CS) := by
  refine hasM_of D scSInit (fun _ _ _ _ _ _ us hl => match us, hl with | [_, _, _], _ => rfl) (fun vs H Q E h => ?_) (fun f cdv A outer s H vs Q E hr h => ?_)
  · obtain ⟨a, dx, li, lu, rfl, _⟩ := h
    rfl
  · obtain ⟨a, dx, li, lu, rfl, ha, q⟩ := h
    refine ⟨_, pss_cons (ps_fld (pv 0) (pv 1) rfl) (pss_one (ps_fld (pv 0) (pv 2) rfl)), ?_⟩
    refine ⟨_, rfl, _, rfl, a, CS, dx, [], rfl, ha, T.cl, T.nI, (by show 0 < 1000; decide), ?_⟩
    rw [sl1]
    refine ⟨_, rfl, _, rfl, a, CS, dx, _, rfl, upd_same, T.cl, T.nU, (by show 1 < 1000; decide), ?_⟩
    rw [sl2]
    refine q _ (fun b o nb e => ?_) upd_same
    rw [upd_ne nb, upd_ne nb]
    exact e
/-- how many of a place's ties aren't out -/
def mno (I U : List (List Int)) (p : Int) : Int := ((row I p).length : Int) + ((row U p).length : Int)
def spMno (C : Addr) : Sp := fun vs H Q _ => ∃ (a : Addr) (n : Nat) (I U : List (List Int)) (p : Int), vs = [.ref a, .int p] ∧ SaidAt C H a I U ∧ SaidOk n I U ∧ 0 ≤ p ∧ p < n ∧ Q (.int (mno I U p)) H
abbrev nMno : List Str := ["self", "place"]
theorem scMno : FnScope nMno ["self", "place"] (defScope s_Said_many_not_out) := ⟨rfl, rfl, rfl, by decide +kernel, rfl, by decide +kernel, by decide +kernel⟩
theorem mno_fn (D : IsMeth K CS "many_not_out" "Said.many_not_out" s_Said_many_not_out) (B : Blt mg) (T : STxt K mg CS) : HasM P w K mg base CS 1 "many_not_out" ["self", "place"] (spMno CS) := by
  refine hasM_of D scMno (fun _ _ _ _ _ _ us hl => match us, hl with | [_, _], _ => rfl) (fun vs H Q E h => ?_) (fun f cdv A outer s H vs Q E hr h => ?_)
  · obtain ⟨a, n, I, U, p, rfl, _⟩ := h
    rfl
  · obtain ⟨a, n, I, U, p, rfl, ⟨dx, li, lu, ha, hI, hU⟩, ok, p0, p1, q⟩ := h
    refine ⟨_, pss_one (ps_ret (pe_op op_add (pe_callB call_len_seq (by rfl) B.len PySem.boot_len (pa_cons (pe_ix (r := rIxL K) ix_list (pe_fld (pv 0) rfl) (pv 1) (fun _ _ => rfl)) pa_nil)) (pe_callB call_len_seq (by rfl) B.len PySem.boot_len (pa_cons (pe_ix (r := rIxL K) ix_list (pe_fld (pv 0) rfl) (pv 1) (fun _ _ => rfl)) pa_nil)))), ?_⟩
    obtain ⟨x1, a1, e1, _, t1, o1⟩ := hI.at_ p0 (by rw [ok.li]; exact p1)
    obtain ⟨x2, a2, e2, _, t2, o2⟩ := hU.at_ p0 (by rw [ok.lu]; exact p1)
    refine ⟨_, rfl, a, CS, dx, _, _, rfl, ha, T.cl, T.nI, look_sI li lu, _, rfl, li, _, _, _, rfl, rfl, SqL.of e1, t1, a1, _, rfl, .inl o1.sq, ?_⟩
    refine ⟨_, rfl, a, CS, dx, _, _, rfl, ha, T.cl, T.nU, look_sU li lu, _, rfl, lu, _, _, _, rfl, rfl, SqL.of e2, t2, a2, _, rfl, .inl o2.sq, _, _, rfl, rfl, ?_⟩
    rw [List.length_map, List.length_map]
    exact q
/-! #### said_out -/
def stepU (a b : Int) (U : List (List Int)) (x : Int) : List (List Int) := U.set x.toNat (cutRow a b (row U x))
theorem out_steps (U : List (List Int)) (a b : Int) : [a, b].foldl (stepU a b) U = outOf U a b := rfl
theorem step_few {n : Nat} {a b x : Int} {U : List (List Int)} (lu : U.length = n) (x0 : 0 ≤ x) (x1 : x < n) (h : ∀ p : Int, 0 ≤ p → p < n → (row U p).length ≤ 12) : (stepU a b U x).length = n ∧ ∀ p : Int, 0 ≤ p → p < n → (row (stepU a b U x) p).length ≤ 12 := by
  refine ⟨by unfold stepU; rw [List.length_set, lu], fun p p0 p1 => ?_⟩
  unfold stepU
  rw [row_set x0 (by omega) p0]
  by_cases c : p = x
  · rw [if_pos c]
    have := List.length_filter_le (fun y => !decide (y ∈ [a, b])) (row U x)
    have := h x x0 x1
    unfold cutRow
    omega
  · rw [if_neg c]
    exact h p p0 p1
def spSOut (C : Addr) : Sp := fun vs H Q _ => ∃ (s t : Addr) (n : Nat) (I U : List (List Int)) (a b : Int), vs = [.ref s, .ref t] ∧ SaidAt C H s I U ∧ SaidOk n I U ∧ n ≤ 12 ∧ TupAt H t [a, b] ∧ 0 ≤ a ∧ a < n ∧ b ∈ row U a ∧
  ∀ H' r, Same H H' → SaidAt C H' r I (outOf U a b) → Q (.ref r) H'
abbrev nSOut : List Str := ["said", "tie", "unsaid", "place", "other"]
theorem scSOut : FnScope nSOut ["said", "tie"] (defScope s_said_out) := ⟨rfl, rfl, rfl, by decide +kernel, rfl, by decide +kernel, by decide +kernel⟩
theorem has_sout (D : IsDef K mg "said_out" s_said_out) (B : Blt mg) (T : STxt K mg CS) (SI : HasM P w K mg base CS 1 "__init__" ["self", "ins", "unsaid"] (spSInit CS)) (mk : PySem.W.makesIn K CS = true) (kc : PySem.W.keepIn K (.ref CS) = true) :
    Has P w K mg base 3 "said_out" ["said", "tie"] (spSOut CS) := by
  refine has_of D scSOut (fun _ _ _ _ _ _ us hl => match us, hl with | [_, _], _ => rfl) (fun vs H Q E h => ?_) (fun f cdv A outer s H vs Q E hr h => ?_)
  · obtain ⟨s, t, n, I, U, a, b, rfl, _⟩ := h
    rfl
  · obtain ⟨sa, t, n, I, U, a, b, rfl, ⟨dx, li, lu, ha, hI, ⟨as, eU, oU⟩⟩, ok, n12, ht, a0, a1, hb, q⟩ := h
    refine ⟨_, pss_cons (ps_set (i := 2) scSOut.nd rfl (.inl rfl) (pe_callTy call_list_of (by rfl) B.list (by decide +kernel) (pa_cons (pe_fld (pv 0) rfl) pa_nil)))
      (pss_cons (ps_for PassesOwn.never rfl (pi_tup (pv 1)) (pg_name (i := 3) scSOut.nd rfl (.inl rfl))
        (pss_one (ps_asg (pe_lc (own := [("other", 4)]) (g := gName 4) (by rfl) scSOut.nd (pi_list (pe_ix (r := rIxL K) ix_list (pv 2) (pv 3) (fun _ _ => rfl))) (blkOk_by (N := nSOut) (sc := defScope s_said_out) (by decide +kernel)) (fun _ _ _ _ _ => pg_name (i := 4) scSOut.nd rfl (.inl rfl))
            (fun _ _ _ _ _ => pts_one (pt_cmpR (r := rIn K true) op_notIn_seq (pv 4) (pv 1) (by with_unfolding_all rfl))) (fun _ _ _ _ _ => pv 4))
          (pg_sub (pv 2) (pv 3) set_list))))
      (pss_one (ps_ret (pe_hasMk SI mk kc hr (by decide) (by rfl) T.mgC (pa_cons (pe_fld (pv 0) rfl) (pa_cons (pv 2) pa_nil)))))), ?_⟩
    obtain ⟨b0, b1, ba⟩ := ok.ru a b a0 a1 hb
    refine ⟨_, rfl, sa, CS, dx, _, _, rfl, ha, T.cl, T.nU, look_sU li lu, lu, _, rfl, .inl (SqL.of eU), fun u nu => ?_⟩
    have s1 := same_new (o := .lst (as.map V.ref)) nu
    have tu : t ≠ u := ne_of_none ht nu
    have hu0 : LLAt (upd H u (.lst (as.map V.ref))) u U := ⟨as, upd_same, oU.same s1⟩
    generalize upd H u (.lst (as.map V.ref)) = H1 at s1 hu0
    have ht1 := TupAt.same ht s1
    refine ⟨_, rfl, t, rfl, ⟨_, SqT.of ht1⟩, for_tup (K := K) (a := t) (xs := [a, b].map V.int) (fun i σ H2 => ∃ x3, σ = [some (.ref sa), some (.ref t), some (.ref u), x3, none] ∧ Kp u H H2 ∧ LLAt H2 u (([a, b].take i).foldl (stepU a b) U) ∧ (([a, b].take i).foldl (stepU a b) U).length = n ∧ ∀ p : Int, 0 ≤ p → p < n → (row (([a, b].take i).foldl (stepU a b) U) p).length ≤ 12)
      ⟨none, rfl, Same.kp s1 u, hu0, ok.lu, fun p p0 p1 => Nat.le_trans (ok.few p0 p1).2 n12⟩ (fun i σ H2 _ ⟨_, _, kp, _⟩ => SqT.of (kp _ _ tu ht)) ?_ ?_⟩
    · rintro i v σ H2 hv ⟨x3, rfl, kp, hu2, lu2, few⟩
      obtain ⟨z, rfl⟩ := ints_at hv
      have hz : [a, b][i]? = some z := by
        rw [List.getElem?_map] at hv
        cases e : [a, b][i]? with
        | none =>
          rw [e] at hv
          cases hv
        | some u =>
          rw [e] at hv
          injection hv with hv
          injection hv with hv
          rw [hv]
      have tk : [a, b].take (i + 1) = [a, b].take i ++ [z] := by
        rw [List.take_succ, hz]
        rfl
      have zr : 0 ≤ z ∧ z < n := by
        have := List.mem_of_getElem? hz
        rcases List.mem_cons.mp this with e | e
        · rw [e]
          exact ⟨a0, a1⟩
        · rw [List.mem_singleton.mp e]
          exact ⟨b0, b1⟩
      have st := step_few (a := a) (b := b) lu2 zr.1 zr.2 few
      rw [tk, List.foldl_append]
      show _
      generalize ([a, b].take i).foldl (stepU a b) U = U2 at hu2 lu2 few st
      obtain ⟨xs, ra, exs, _, at_, ora⟩ := hu2.at_ zr.1 (by rw [lu2]; exact zr.2)
      have ht2 : TupAt H2 t [a, b] := kp _ _ tu ht
      have r12 := few z zr.1 zr.2
      refine ⟨_, rfl, _, rfl, u, _, _, _, rfl, rfl, SqL.of exs, at_, ra, rfl, ⟨_, ora.sq⟩, fun D nD => ?_⟩
      have raD : ra ≠ D := ne_of_none ora nD
      refine lc_list (K := K) (a := ra) (xs := (row U2 z).map V.int) (fun j H3 => Kp D H2 H3 ∧ OrdAt H3 D (((row U2 z).take j).filter fun x => !decide (x ∈ [a, b]))) ⟨Kp.put _ _ _, upd_same⟩ (fun j H3 _ ⟨k3, _⟩ => SqL.of (k3 _ _ raD ora)) ?_ ?_
      · rintro j v H3 hv' ⟨k3, eD⟩
        obtain ⟨y, rfl⟩ := ints_at hv'
        have hy : (row U2 z)[j]? = some y := by
          rw [List.getElem?_map] at hv'
          cases e : (row U2 z)[j]? with
          | none =>
            rw [e] at hv'
            cases hv'
          | some u =>
            rw [e] at hv'
            injection hv' with hv'
            injection hv' with hv'
            rw [hv']
        have tk2 : (row U2 z).take (j + 1) = (row U2 z).take j ++ [y] := by
          rw [List.take_succ, hy]
          rfl
        have lf := List.length_filter_le (fun x => !decide (x ∈ [a, b])) ((row U2 z).take j)
        rw [List.length_take] at lf
        refine ⟨rfl, _, rfl, _, rfl, t, _, rfl, .inr (SqT.of (k3 _ _ (ne_of_none ht2 nD) ht2)), rfl, flat_intsV _, _, rfl, ?_⟩
        simp only [if_true]
        rw [inV_dec]
        by_cases mem : y ∈ [a, b]
        · rw [decide_eq_true mem]
          refine iteF ⟨k3, ?_⟩
          rw [tk2, List.filter_append, List.filter_cons, if_neg (by rw [decide_eq_true mem]; exact Bool.false_ne_true), List.filter_nil, List.append_nil]
          exact eD
        · rw [decide_eq_false mem]
          refine iteT ⟨_, rfl, _, eD, ?_, k3.trans (Kp.put _ _ _), ?_⟩
          · rw [List.length_map]
            exact small1000 (by omega)
          · show upd _ _ _ _ = _
            rw [upd_same, tk2, List.filter_append, List.filter_cons, if_pos (by rw [decide_eq_false mem]; rfl), List.filter_nil, List.map_append]
            rfl
      · rintro H3 ⟨k3, eD⟩
        rw [List.length_map, List.take_length] at eD
        have s3 : Same H2 H3 := fun c o e => k3 c o (ne_of_none e nD) e
        obtain ⟨ys, eys, ix, hu3⟩ := (hu2.same s3).put zr.1 (by rw [lu2]; exact zr.2) eD
        refine ⟨_, rfl, _, rfl, u, ys, z, _, rfl, rfl, eys, ix, _, rfl, fun c o nc e => ?_, hu3, st.1, st.2⟩
        rw [upd_ne nc]
        exact s3 _ _ (kp _ _ nc e)
    · rintro σ H2 ⟨x3, rfl, kp, hu2, _, _⟩
      have s2 : Same H H2 := fun c o e => kp c o (ne_of_none e nu) e
      have hu2 : LLAt H2 u (outOf U a b) := hu2
      refine ⟨_, rfl, sa, CS, dx, _, _, rfl, s2 _ _ ha, T.cl, T.nI, look_sI li lu, _, rfl, fun x dx' nx ndx hne => ?_⟩
      have sx : Same H2 (upd (upd H2 dx' (.own x)) x (.ins CS dx' [])) := (same_new ndx).trans (same_new ((upd_ne (Ne.symm hne)).trans nx))
      refine ⟨x, dx', li, u, rfl, upd_same, fun H' k hy => ⟨rfl, ?_⟩⟩
      have s' : Same H2 H' := fun c o e => by
        have cx : c ≠ x := fun z => by
          rw [z, nx] at e
          cases e
        exact k c o cx (sx c o e)
      exact q H' x (s2.trans s') ⟨dx', li, u, hy, (hI.same s2).same s', hu2.same s'⟩
end
end DR

set_option Elab.async false
set_option linter.all false
set_option maxRecDepth 100000
set_option maxHeartbeats 4000000
namespace DR
open PySem PySem.Spec PyProof.Rows L2
section
variable {P : Program} {w : World} {K : PySem.W.Frag} {mg : Str → Option Value} {base : Heap} {C CS : Addr}
/-! #### said_in -/
def stepI (I : List (List Int)) (x y : Int) : List (List Int) := I.set x.toNat (row I x ++ [y])
theorem in_steps (I : List (List Int)) (a b : Int) : stepI (stepI I a b) b a = inOf I a b := rfl
def spSIn (C : Addr) : Sp := fun vs H Q _ => ∃ (s t : Addr) (n : Nat) (I U : List (List Int)) (a b : Int), vs = [.ref s, .ref t] ∧ SaidAt C H s I U ∧ SaidOk n I U ∧ n ≤ 12 ∧ TupAt H t [a, b] ∧ 0 ≤ a ∧ a < n ∧ b ∈ row U a ∧
  ∀ H' r, Same H H' → SaidAt C H' r (inOf I a b) (outOf U a b) → Q (.ref r) H'
abbrev nSIn : List Str := ["said", "tie", "one", "other", "ins"]
theorem scSIn : FnScope nSIn ["said", "tie"] (defScope s_said_in) := ⟨rfl, rfl, rfl, by decide +kernel, rfl, by decide +kernel, by decide +kernel⟩
theorem has_sin (D : IsDef K mg "said_in" s_said_in) (B : Blt mg) (T : STxt K mg CS) (SI : HasM P w K mg base CS 1 "__init__" ["self", "ins", "unsaid"] (spSInit CS)) (mk : PySem.W.makesIn K CS = true) (kc : PySem.W.keepIn K (.ref CS) = true)
    (SO : Has P w K mg base 3 "said_out" ["said", "tie"] (spSOut CS)) : Has P w K mg base 4 "said_in" ["said", "tie"] (spSIn CS) := by
  refine has_of D scSIn (fun _ _ _ _ _ _ us hl => match us, hl with | [_, _], _ => rfl) (fun vs H Q E h => ?_) (fun f cdv A outer s H vs Q E hr h => ?_)
  · obtain ⟨s, t, n, I, U, a, b, rfl, _⟩ := h
    rfl
  · obtain ⟨sa, t, n, I, U, a, b, rfl, hs, ok, n12, ht, a0, a1, hb, q⟩ := h
    refine ⟨_, pss_cons (ps_asg (pv 1) (pg_tup rfl (pgs_cons (pg_name (i := 2) scSIn.nd rfl (.inl rfl)) (pgs_cons (pg_name (i := 3) scSIn.nd rfl (.inl rfl)) pgs_nil))))
      (pss_cons (ps_set (i := 4) scSIn.nd rfl (.inl rfl) (pe_callTy call_list_of (by rfl) B.list (by decide +kernel) (pa_cons (pe_fld (pv 0) rfl) pa_nil)))
      (pss_cons (ps_asg (pe_lst (StX.pa_star (pe_ix (r := rIxL K) ix_list (pv 4) (pv 2) (fun _ _ => rfl)) (pa_cons (pv 3) pa_nil))) (pg_sub (pv 4) (pv 2) set_list))
      (pss_cons (ps_asg (pe_lst (StX.pa_star (pe_ix (r := rIxL K) ix_list (pv 4) (pv 3) (fun _ _ => rfl)) (pa_cons (pv 2) pa_nil))) (pg_sub (pv 4) (pv 3) set_list))
      (pss_one (ps_ret (pe_hasMk SI mk kc hr (by decide) (by rfl) T.mgC (pa_cons (pv 4) (pa_cons (pe_fld (pe_has SO hr (by decide) (by rfl) (pa_cons (pv 0) (pa_cons (pv 1) pa_nil))) rfl) pa_nil)))))))), ?_⟩
    obtain ⟨dx, li, lu, ha, ⟨as, eI, oI⟩, hU⟩ := id hs
    obtain ⟨b0, b1, ba⟩ := ok.ru a b a0 a1 hb
    have ht' : H t = some (.tup [.int a, .int b]) := ht
    refine ⟨_, rfl, t, _, rfl, SqT.of ht', rfl, _, _, rfl, _, _, rfl, rfl, ?_⟩
    refine ⟨_, rfl, sa, CS, dx, _, _, rfl, ha, T.cl, T.nI, look_sI li lu, li, _, rfl, .inl (SqL.of eI), fun u nu => ?_⟩
    have s1 := same_new (o := .lst (as.map V.ref)) nu
    have hu1 : LLAt (upd H u (.lst (as.map V.ref))) u I := ⟨as, upd_same, oI.same s1⟩
    generalize upd H u (.lst (as.map V.ref)) = H1 at s1 hu1
    -- ins[one] = [*ins[one], other]
    obtain ⟨x1, r1, e1, _, t1, o1⟩ := hu1.at_ a0 (by rw [ok.li]; exact a1)
    have f1 := (ok.few a0 a1).1
    refine ⟨_, rfl, _, rfl, u, _, _, _, rfl, rfl, SqL.of e1, t1, r1, _, rfl, .inr o1.sq, _, rfl, ?_, fun D nD => ?_⟩
    · rw [List.length_append, List.length_map]
      exact Nat.le_of_lt (small1000 (by simp; omega))
    have s2 := same_new (o := .lst ((row I a).map V.int ++ [.int b])) nD
    have hD : OrdAt (upd H1 D (.lst ((row I a).map V.int ++ [.int b]))) D (row I a ++ [b]) := by
      show upd _ _ _ _ = _
      rw [upd_same, List.map_append]
      rfl
    have hu2 := hu1.same s2
    generalize upd H1 D (.lst ((row I a).map V.int ++ [.int b])) = H2 at s2 hD hu2
    obtain ⟨y1, ey1, ix1, hu3⟩ := hu2.put a0 (by rw [ok.li]; exact a1) hD
    refine ⟨_, rfl, _, rfl, u, y1, a, _, rfl, rfl, ey1, ix1, ?_⟩
    have k3 : Kp u H (upd H2 u (.lst (y1.set a.toNat (.ref D)))) := fun c o nc e => by
      rw [upd_ne nc]
      exact s2 _ _ (s1 _ _ e)
    generalize upd H2 u (.lst (y1.set a.toNat (.ref D))) = H3 at k3 hu3
    have hu3 : LLAt H3 u (stepI I a b) := hu3
    have lI : (stepI I a b).length = n := by
      unfold stepI
      rw [List.length_set, ok.li]
    have rI : row (stepI I a b) b = row I b := by
      unfold stepI
      rw [row_set a0 (by rw [ok.li]; exact a1) b0, if_neg ba]
    -- ins[other] = [*ins[other], one]
    obtain ⟨x2, r2, e2, _, t2, o2⟩ := hu3.at_ b0 (by rw [lI]; exact b1)
    have f2 := (ok.few b0 b1).1
    refine ⟨_, rfl, _, rfl, u, _, _, _, rfl, rfl, SqL.of e2, t2, r2, _, rfl, .inr o2.sq, _, rfl, ?_, fun D2 nD2 => ?_⟩
    · rw [List.length_append, List.length_map, rI]
      exact Nat.le_of_lt (small1000 (by simp; omega))
    have s4 := same_new (o := .lst ((row (stepI I a b) b).map V.int ++ [.int a])) nD2
    have hD2 : OrdAt (upd H3 D2 (.lst ((row (stepI I a b) b).map V.int ++ [.int a]))) D2 (row (stepI I a b) b ++ [a]) := by
      show upd _ _ _ _ = _
      rw [upd_same, List.map_append]
      rfl
    have hu4 := hu3.same s4
    generalize upd H3 D2 (.lst ((row (stepI I a b) b).map V.int ++ [.int a])) = H4 at s4 hD2 hu4
    obtain ⟨y2, ey2, ix2, hu5⟩ := hu4.put b0 (by rw [lI]; exact b1) hD2
    refine ⟨_, rfl, _, rfl, u, y2, b, _, rfl, rfl, ey2, ix2, ?_⟩
    have k5 : Kp u H (upd H4 u (.lst (y2.set b.toNat (.ref D2)))) := fun c o nc e => by
      rw [upd_ne nc]
      exact s4 _ _ (k3 _ _ nc e)
    generalize upd H4 u (.lst (y2.set b.toNat (.ref D2))) = H5 at k5 hu5
    have hu5 : LLAt H5 u (inOf I a b) := hu5
    have s5 : Same H H5 := fun c o e => k5 c o (ne_of_none e nu) e
    refine ⟨_, rfl, _, rfl, _, rfl, sa, t, n, I, U, a, b, rfl, hs.same s5, ok, n12, ht.same s5, a0, a1, hb, fun H6 r s6 hr6 => ?_⟩
    obtain ⟨dx6, li6, lu6, g1, g2, g3⟩ := hr6
    refine ⟨r, CS, dx6, _, _, rfl, g1, T.cl, T.nU, look_sU li6 lu6, fun x dx' nx ndx hne => ?_⟩
    have sx : Same H6 (upd (upd H6 dx' (.own x)) x (.ins CS dx' [])) := (same_new ndx).trans (same_new ((upd_ne (Ne.symm hne)).trans nx))
    refine ⟨x, dx', u, lu6, rfl, upd_same, fun H' k hy => ⟨rfl, ?_⟩⟩
    have s' : Same H6 H' := fun c o e => by
      have cx : c ≠ x := fun z => by
        rw [z, nx] at e
        cases e
      exact k c o cx (sx c o e)
    exact q H' x ((s5.trans s6).trans s') ⟨dx', u, lu6, hy, (hu5.same s6).same s', g3.same s'⟩
/-! #### way_from -/
theorem getM_l {w : List Int} {x : Int} {i : Nat} (h : i < w.length) : (w ++ [x]).getD i 0 = w.getD i 0 := by
  rw [List.getD_eq_getElem?_getD, List.getD_eq_getElem?_getD, List.getElem?_append_left h]
theorem getM_r {w : List Int} {x : Int} : (w ++ [x]).getD w.length 0 = x := by
  rw [List.getD_eq_getElem?_getD, List.getElem?_append_right (Nat.le_refl _), Nat.sub_self]
  rfl
/-- a way, so far -/
structure WayTo (n : Nat) (I : List (List Int)) (p : Int) (w : List Int) : Prop where
  ne : 0 < w.length
  hd : w.getD 0 0 = p
  nd : w.Nodup
  rng : ∀ x ∈ w, 0 ≤ x ∧ x < n
  st : ∀ i, i + 1 < w.length → w.getD (i + 1) 0 ∈ row I (w.getD i 0)
theorem WayTo.len {n : Nat} {I : List (List Int)} {p : Int} {w : List Int} (h : WayTo n I p w) : w.length ≤ n := by
  have := nodup_le w (upTo n) h.nd fun x hx => upTo_mem.mpr (h.rng x hx)
  rwa [upTo_len] at this
theorem WayTo.last {n : Nat} {I : List (List Int)} {p : Int} {w : List Int} (h : WayTo n I p w) : lastOf w ∈ w := by
  have := h.ne
  exact getM_in (by omega)
theorem WayTo.on {n : Nat} {I U : List (List Int)} {p x : Int} {w : List Int} (ok : SaidOk n I U) (h : WayTo n I p w) (hx : x ∈ row I (lastOf w)) (nx : x ∉ w) : WayTo n I p (w ++ [x]) := by
  have ne := h.ne
  obtain ⟨l0, l1⟩ := h.rng _ h.last
  obtain ⟨x0, x1, _⟩ := ok.ri _ x l0 l1 hx
  refine ⟨by simp, ?_, ?_, fun y hy => ?_, fun i hi => ?_⟩
  · rw [getM_l ne]
    exact h.hd
  · rw [List.nodup_append]
    refine ⟨h.nd, by simp, fun y hy z hz e => ?_⟩
    rw [List.mem_singleton.mp hz] at e
    exact nx (e ▸ hy)
  · rcases List.mem_append.mp hy with z | z
    · exact h.rng y z
    · rw [List.mem_singleton.mp z]
      exact ⟨x0, x1⟩
  · rw [List.length_append] at hi
    simp at hi
    rw [getM_l hi]
    by_cases c : i + 1 < w.length
    · rw [getM_l c]
      exact h.st i c
    · have e : i + 1 = w.length := by omega
      rw [e, getM_r]
      have : w.getD i 0 = lastOf w := by
        unfold lastOf
        rw [← e]
        rfl
      rw [this]
      exact hx
def onOf (I : List (List Int)) (w : List Int) : List Int := ((row I (lastOf w)).filter fun x => !decide (x ∈ w)).take 1
def spWay : Sp := fun vs H Q _ => ∃ (li : Addr) (n : Nat) (I U : List (List Int)) (p : Int), vs = [.ref li, .int p] ∧ LLAt H li I ∧ SaidOk n I U ∧ n ≤ 12 ∧ 0 ≤ p ∧ p < n ∧
  ∀ H' r w, Same H H' → H r = none → OrdAt H' r w → IsWay n I p w → Q (.ref r) H'
abbrev nWay : List Str := ["ins", "first", "way", "onward", "place"]
theorem scWay : FnScope nWay ["ins", "first"] (defScope s_way_from) := ⟨rfl, rfl, rfl, by decide +kernel, rfl, by decide +kernel, by decide +kernel⟩
theorem has_wayfrom (D : IsDef K mg "way_from" s_way_from) : Has P w K mg base 1 "way_from" ["ins", "first"] spWay := by
  refine has_of D scWay (fun _ _ _ _ _ _ us hl => match us, hl with | [_, _], _ => rfl) (fun vs H Q E h => ?_) (fun f cdv A outer s H vs Q E hr h => ?_)
  · obtain ⟨li, n, I, U, p, rfl, _⟩ := h
    rfl
  · obtain ⟨li, n, I, U, p, rfl, hI, ok, n12, p0, p1, q⟩ := h
    refine ⟨_, pss_cons (ps_set (i := 2) scWay.nd rfl (.inr rfl) (pe_lst (pa_cons (pv 1) pa_nil)))
      (pss_cons (ps_set (i := 3) scWay.nd rfl (.inl rfl) (pe_slice sl_list (pe_ix (r := rIxL K) ix_list (pv 0) (pv 1) (fun _ _ => rfl)) po_none (po_some pe_int)))
      (pss_cons (ps_while PassesOwn.never (pt_truth (pv 3) (by intro _; rfl))
        (pss_cons (ps_expr (pe_bm PySem.F.plainAttrs_list PySem.F.slot_list_append PySem.F.type_list_append mt_append (pv 2) (pa_cons (pe_ix (r := rIxL K) ix_list (pv 3) pe_int (fun _ _ => rfl)) pa_nil)))
        (pss_one (ps_set (i := 3) scWay.nd rfl (.inl rfl) (pe_slice sl_list (pe_lc (own := [("place", 4)]) (g := gName 4) (by rfl) scWay.nd (pi_list (pe_ix (r := rIxL K) ix_list (pv 0) (pe_ix (r := rIxL K) ix_list (pv 3) pe_int (fun _ _ => rfl)) (fun _ _ => rfl))) (blkOk_by (N := nWay) (sc := defScope s_way_from) (by decide +kernel)) (fun _ _ _ _ _ => pg_name (i := 4) scWay.nd rfl (.inl rfl))
            (fun _ _ _ _ _ => pts_one (pt_cmpR (r := rIn K true) op_notIn_seq (pv 4) (pv 2) (by with_unfolding_all rfl))) (fun _ _ _ _ _ => pv 4)) po_none (po_some pe_int))))))
      (pss_one (ps_ret (pv 2))))), ?_⟩
    refine ⟨_, rfl, by show 1 ≤ sizeLine; decide, fun w0 nw => ?_⟩
    have s1 := same_new (o := .lst [.int p]) nw
    have hw1 : OrdAt (upd H w0 (.lst [.int p])) w0 [p] := upd_same
    generalize upd H w0 (.lst [.int p]) = H1 at s1 hw1
    obtain ⟨x1, r1, e1, _, t1, o1⟩ := (hI.same s1).at_ p0 (by rw [ok.li]; exact p1)
    refine ⟨_, rfl, _, rfl, li, _, _, _, rfl, rfl, SqL.of e1, t1, _, rfl, r1, _, rfl, o1.sq, fun on1 non1 => ?_⟩
    have s2 := same_new (o := .lst (cutV ((row I p).map V.int) none (some 1))) non1
    have ho1 : OrdAt (upd H1 on1 (.lst (cutV ((row I p).map V.int) none (some 1)))) on1 (onOf I [p]) := by
      show upd _ _ _ _ = _
      rw [upd_same, show (some (1 : Int)) = some ((1 : Nat) : Int) from rfl, cut_to, ← List.map_take]
      unfold onOf
      have e : (row I (lastOf [p])).filter (fun x => !decide (x ∈ [p])) = row I p := by
        show (row I p).filter _ = _
        refine List.filter_eq_self.mpr fun x hx => ?_
        have := (ok.ri p x p0 p1 hx).2.2
        simp [this]
      rw [e]
    generalize upd H1 on1 (.lst (cutV ((row I p).map V.int) none (some 1))) = H2 at s2 ho1
    refine ⟨fun m σ H3 => ∃ (wy : List Int) (on : Addr) (x4 : Option V), m = n - wy.length ∧ σ = [some (.ref li), some (.int p), some (.ref w0), some (.ref on), x4] ∧ Kp w0 H H3 ∧ OrdAt H3 w0 wy ∧ OrdAt H3 on (onOf I wy) ∧ on ≠ w0 ∧ WayTo n I p wy,
      ⟨_, [p], on1, none, rfl, rfl, Same.kp (s1.trans s2) w0, s2 _ _ hw1, ho1, Ne.symm (ne_of_none hw1 non1), ⟨by simp, rfl, by simp, fun x hx => by rw [List.mem_singleton.mp hx]; exact ⟨p0, p1⟩, fun i hi => absurd hi (by simp)⟩⟩, ?_⟩
    rintro m σ H3 ⟨wy, on, x4, rfl, rfl, kp, hw, hon, onw, way⟩
    have s3 : Same H H3 := fun c o e => kp c o (ne_of_none e nw) e
    refine ⟨_, rfl, _, .inl ⟨_, hon.sq, rfl⟩, ?_⟩
    have wl := way.len
    cases ho : onOf I wy with
    | nil =>
      refine iteF ?_
      refine ⟨_, rfl, q H3 w0 wy s3 nw hw ⟨way.ne, way.hd, way.nd, way.rng, way.st, fun x hx => ?_⟩⟩
      by_cases c : x ∈ wy
      · exact c
      · exfalso
        have hm : x ∈ (row I (lastOf wy)).filter fun x => !decide (x ∈ wy) := List.mem_filter.mpr ⟨hx, by simp [c]⟩
        unfold onOf at ho
        cases hf : (row I (lastOf wy)).filter fun x => !decide (x ∈ wy) with
        | nil =>
          rw [hf] at hm
          cases hm
        | cons z zs =>
          rw [hf] at ho
          cases ho
    | cons x rest =>
      rw [ho] at hon
      have hx : x ∈ row I (lastOf wy) ∧ x ∉ wy := by
        have : x ∈ onOf I wy := by
          rw [ho]
          simp
        obtain ⟨h1, h2⟩ := List.mem_filter.mp (List.take_subset _ _ this)
        exact ⟨h1, by simpa using h2⟩
      have way2 := way.on ok hx.1 hx.2
      have wl2 := way2.len
      obtain ⟨l0, l1⟩ := way.rng _ way.last
      obtain ⟨x0, x1', _⟩ := ok.ri _ x l0 l1 hx.1
      rw [List.length_append] at wl2
      simp at wl2
      refine iteT ⟨_, fun σ' H' h => h, ?_⟩
      refine ⟨_, rfl, .inl ⟨rfl, _, hw.sq⟩, _, rfl, on, _, _, _, rfl, rfl, hon.sq, atI_nat (j := 0) rfl, w0, _, _, rfl, rfl, hw, ?_, ?_⟩
      · rw [List.length_map]
        exact small1000 (by omega)
      have k4 : Kp w0 H (upd H3 w0 (.lst (wy.map V.int ++ [.int x]))) := fun c o nc e => by
        rw [upd_ne nc]
        exact kp _ _ nc e
      have hw4 : OrdAt (upd H3 w0 (.lst (wy.map V.int ++ [.int x]))) w0 (wy ++ [x]) := by
        show upd _ _ _ _ = _
        rw [upd_same, List.map_append]
        rfl
      have hon4 : OrdAt (upd H3 w0 (.lst (wy.map V.int ++ [.int x]))) on (x :: rest) := (upd_ne onw).trans hon
      generalize upd H3 w0 (.lst (wy.map V.int ++ [.int x])) = H4 at k4 hw4 hon4
      have s4 : Same H H4 := fun c o e => k4 c o (ne_of_none e nw) e
      obtain ⟨x2, r2, e2, _, t2, o2⟩ := (hI.same s4).at_ x0 (by rw [ok.li]; exact x1')
      refine ⟨_, rfl, _, rfl, on, _, _, _, rfl, rfl, hon4.sq, atI_nat (j := 0) rfl, li, _, _, _, rfl, rfl, SqL.of e2, t2, r2, rfl, ⟨_, o2.sq⟩, fun D nD => ?_⟩
      have r12 := (ok.few x0 x1').1
      have r2D : r2 ≠ D := ne_of_none o2 nD
      have wD : w0 ≠ D := ne_of_none hw4 nD
      have eL : lastOf (wy ++ [x]) = x := by
        unfold lastOf
        rw [List.length_append]
        exact getM_r
      refine lc_list (K := K) (a := r2) (xs := (row I x).map V.int) (fun j H5 => Kp D H4 H5 ∧ OrdAt H5 D (((row I x).take j).filter fun z => !decide (z ∈ wy ++ [x]))) ⟨Kp.put _ _ _, upd_same⟩ (fun j H5 _ ⟨k5, _⟩ => SqL.of (k5 _ _ r2D o2)) ?_ ?_
      · rintro j v H5 hv' ⟨k5, eD⟩
        obtain ⟨y, rfl⟩ := ints_at hv'
        have hy : (row I x)[j]? = some y := by
          rw [List.getElem?_map] at hv'
          cases e : (row I x)[j]? with
          | none =>
            rw [e] at hv'
            cases hv'
          | some u =>
            rw [e] at hv'
            injection hv' with hv'
            injection hv' with hv'
            rw [hv']
        have tk2 : (row I x).take (j + 1) = (row I x).take j ++ [y] := by
          rw [List.take_succ, hy]
          rfl
        have lf := List.length_filter_le (fun z => !decide (z ∈ wy ++ [x])) ((row I x).take j)
        rw [List.length_take] at lf
        refine ⟨rfl, _, rfl, _, rfl, w0, _, rfl, .inl (SqL.of (k5 _ _ wD hw4)), rfl, flat_intsV _, _, rfl, ?_⟩
        simp only [if_true]
        rw [inV_dec]
        by_cases mem : y ∈ wy ++ [x]
        · rw [decide_eq_true mem]
          refine iteF ⟨k5, ?_⟩
          rw [tk2, List.filter_append, List.filter_cons, if_neg (by rw [decide_eq_true mem]; exact Bool.false_ne_true), List.filter_nil, List.append_nil]
          exact eD
        · rw [decide_eq_false mem]
          refine iteT ⟨_, rfl, _, eD, ?_, k5.trans (Kp.put _ _ _), ?_⟩
          · rw [List.length_map]
            exact small1000 (by omega)
          · show upd _ _ _ _ = _
            rw [upd_same, tk2, List.filter_append, List.filter_cons, if_pos (by rw [decide_eq_false mem]; rfl), List.filter_nil, List.map_append]
            rfl
      · rintro H5 ⟨k5, eD⟩
        rw [List.length_map, List.take_length] at eD
        have s5 : Same H4 H5 := fun c o e => k5 c o (ne_of_none e nD) e
        refine ⟨_, rfl, D, _, rfl, eD.sq, fun on5 non5 => ?_⟩
        have s6 := same_new (o := .lst (cutV (((row I x).filter fun z => !decide (z ∈ wy ++ [x])).map V.int) none (some 1))) non5
        refine ⟨n - (wy ++ [x]).length, ?_, wy ++ [x], on5, _, rfl, rfl, fun c o nc e => s6 _ _ (s5 _ _ (k4 _ _ nc e)), s6 _ _ (s5 _ _ hw4), ?_, Ne.symm (ne_of_none (s5 _ _ hw4) non5), way2⟩
        · rw [List.length_append]
          simp
          omega
        · show upd _ _ _ _ = _
          rw [upd_same, show (some (1 : Int)) = some ((1 : Nat) : Int) from rfl, cut_to, ← List.map_take]
          unfold onOf
          rw [eL]
end
end DR

set_option Elab.async false
set_option linter.all false
set_option maxRecDepth 100000
set_option maxHeartbeats 4000000
/-! ### min of a list of ints, the key a method of an instance -/
namespace DR
open PySem PySem.Spec PyProof.Rows L2
def IntsIn (is : List Int) (its : Array Value) : Prop := its.size = is.length ∧ ∀ (k : Nat) (v : Value), its[k]? = some v → ∃ t, v = Value.int (is.getD k 0) t
theorem intsIn_of {is : List Int} {us : List Value} (r : Vals (is.map V.int) us) : IntsIn is us.toArray := by
  refine ⟨?_, fun k v h => ?_⟩
  · have := r.length
    rw [List.length_map] at this
    rw [List.size_toArray, this]
  · rw [List.getElem?_toArray] at h
    have key : ∀ (ns : List Int) (us : List Value), Vals (ns.map V.int) us → ∀ (k : Nat) (v : Value), us[k]? = some v → ∃ t, v = .int (ns.getD k 0) t := by
      intro ns
      induction ns with
      | nil =>
        intro us r k v h
        cases r
        simp at h
      | cons n ns ih =>
        intro us r k v h
        cases r with
        | cons r0 rr =>
          cases k with
          | zero =>
            obtain ⟨t, e⟩ := r0
            simp at h
            exact ⟨t, by rw [← h, e]; rfl⟩
          | succ k =>
            have := ih _ rr k v (by simpa using h)
            simpa using this
    exact key _ _ r k v h
theorem walk_ints {prog : Program} {w : World} {A : Around} (hh : A.handled = none) (I p : Addr) (hne : p ≠ I) (is : List Int) :
    WalksS prog w A I [I, p] [I] (fun a b => b = a) is.length (fun i v => ∃ t, v = .int (is.getD i 0) t) (fun i s => s.heap.IsListIter I p i ∧ ∃ its, IntsIn is its ∧ s.heap.IsList p its) where
  sub := fun b hb => by
    simp at hb
    simp [hb]
  grefl := fun _ => rfl
  gtrans := fun _ _ _ h1 h2 => h2.trans h1
  frame := fun i s h' tk ⟨st, its, r, l⟩ _ hk => ⟨st.at fun o e => hk I (by simp) o e, its, r, l.at fun o e => hk p (by simp) o e⟩
  item := fun i s Q E hi ⟨st, its, r, l⟩ hQ => (Walks.list hh I p hne its).toS.item i s Q E (Nat.lt_of_lt_of_eq hi r.1.symm) ⟨st, l⟩ fun v s' hP st' hm => hQ v s' (r.2 i v hP) ⟨st'.1, its, r, st'.2⟩ hm
  done := fun s Q E ⟨st, its, r, l⟩ hQ => (Walks.list hh I p hne its).toS.done s Q E ⟨r.1 ▸ st, l⟩ hQ
  self := fun i s Q E ⟨st, _⟩ hQ => wpAny_pyIter_listiter st hQ
def minBy (key : Int → Int) (is : List Int) : Int := is.getD (argBest (fun i j => decide (key (is.getD i 0) < key (is.getD j 0))) (is.length - 1)) 0
theorem minBy_mem {key : Int → Int} {is : List Int} (h : is ≠ []) : minBy key is ∈ is := by
  have hp := List.length_pos_iff.mpr h
  have a := (argBest_lt (fun i => key (is.getD i 0)) (is.length - 1)).1
  unfold minBy
  have hl : argBest (fun i j => decide (key (is.getD i 0) < key (is.getD j 0))) (is.length - 1) < is.length := by omega
  rw [List.getD_eq_getElem?_getD, List.getElem?_eq_getElem hl]
  exact List.getElem_mem _
def rMinKey (sp : Sp) (g : Addr) : List V → List V → Hp → VK → Prop := fun xs zs H Q => ∃ (l a q : Addr) (is : List Int) (key : Int → Int), xs = [.ref l] ∧ zs = [.ref q] ∧ H l = some (.lst (is.map V.int)) ∧ H q = some (.met g a) ∧ is ≠ [] ∧
  (∀ z ∈ is, ∀ (H1 : Hp) (R : VK), Same H H1 → (∀ H2, Same H1 H2 → R (.int (key z)) H2) → sp [.ref a, .int z] H1 R E0) ∧ ∀ H', Same H H' → Q (.int (minBy key is)) H'
section
variable {X : Cx}
/-- two records of ours have turned -/
theorem Inv_two {pins : List (Addr × Obj)} {σ : L2.St} {H : Hp} {s s' : Shared} {a b : Addr} (I : Inv X pins σ H s) (fa : FpOk X pins H a) (fb : FpOk X pins H b) (k : ∀ c o, c ≠ a → c ≠ b → s.heap.get? c = some o → s'.heap.get? c = some o)
    (hg : s'.gens = s.gens) (ho : s'.os = s.os) : Inv X pins σ H s' := by
  obtain ⟨h', g', d', t', o'⟩ := s'
  have e : o' = s.os := ho
  subst e
  have e2 : g' = s.gens := hg
  subst e2
  obtain ⟨na, la, fa1, fa2, fa3, fa4⟩ := fa
  obtain ⟨nb, lb, fb1, fb2, fb3, fb4⟩ := fb
  have nit : ∀ c u, H c = some u → c ≠ a ∧ c ≠ b := fun c u e => by
    refine ⟨fun z => ?_, fun z => ?_⟩
    · rw [z, na] at e
      cases e
    · rw [z, nb] at e
      cases e
  refine I.step (g' := s.gens) (d' := d') (t' := t') (ch := [a, b]) (fun c hc => ?_) (fun c o _ _ hc e _ => k c o (fun z => hc (by simp [z])) (fun z => hc (by simp [z])) e) (fun c o _ _ hc e _ => ⟨o.slots, k c o (fun z => hc (by simp [z])) (fun z => hc (by simp [z])) e⟩) (fun _ _ _ _ n => n)
    (fun c o hc e => ⟨o, k c o (fun z => hc (by simp [z])) (fun z => hc (by simp [z])) e⟩) (fun _ _ e => e) (fun _ _ _ e => e) (fun c ps e => ⟨#[], by rw [e]; simp⟩) (fun m hm => ?_) (fun c u e => ?_) I.bare
  · rcases List.mem_cons.mp hc with e | hc
    · subst e
      exact ⟨fa2, la, fa3, fa4⟩
    · have e : c = b := by simpa using hc
      subst e
      exact ⟨fb2, lb, fb3, fb4⟩
  · obtain ⟨o, es, ep, ho, r⟩ := hm
    exact ⟨o, es, ep, k _ o (Ne.symm la) (Ne.symm lb) ho, r⟩
  · refine (I.hok c u e).stay (fun c' v hc q => ?_) (fun _ q => q) fun _ _ q => q
    have z : c' ≠ a ∧ c' ≠ b := by
      rcases hc with z | z
      · rw [z]
        exact nit c u e
      · exact nit c' _ z
    exact k c' v z.1 z.2 q
theorem cr_minKey {g : Addr} {k : Nat} {sp : Sp} (hc : X.calm = true) (F : FnR X.prog X.w X.K X.mg X.base CX0 k g sp) (hr : Room (k + 1) X.A) : CallRK X (.builtin "min") [Str.ofString "key"] (rMinKey sp g) := by
  intro pins s σ H xs zs us ws Q I rx rz h
  obtain ⟨l, a, q, is, key, rfl, rfl, hl, hq, ne, hsp, fin⟩ := h
  rw [Vals.ref1 rx, Vals.ref1 rz]
  show wpAny _ _ (call (.builtin "min") [.ref l] [(Str.ofString "key", .ref q)]) _ _ s
  obtain ⟨its, rv, pl, _⟩ := I.list (SqL.of (K := X.K) hl)
  refine call_min_walkK (iter_anyList pl.isList fun s₂ e st hfp hlI => ?_)
  have hsz : s₂.heap.objs.size = s.heap.objs.size + 1 := by
    rw [e]
    exact Heap.size_push _ _
  have I2 : Inv X pins σ H s₂ := by
    rw [e]
    exact I.kept (t' := s.toks) fun b o e => Heap.get?_push_of_some _ e
  have fI : FpOk X pins H s.heap.objs.size := I.fpOk (Nat.le_refl _) (I.hok.fresh (Nat.le_refl _))
  have fS : FpOk X pins H s₂.heap.objs.size := I2.fpOk (Nat.le_refl _) (I2.hok.fresh (Nat.le_refl _))
  have nIS : s.heap.objs.size ≠ s₂.heap.objs.size := by omega
  refine ⟨_, _, _, _, _, _, _, fun s' => ∃ H', Inv X pins σ H' s' ∧ Same H H' ∧ FpOk X pins H' s.heap.objs.size ∧ FpOk X pins H' s₂.heap.objs.size, fun i v _ => ∃ t, v = .int (key (is.getD i 0)) t,
    fun i j => decide (key (is.getD i 0) < key (is.getD j 0)), rfl, walk_ints (A := X.A.in1) (I.ok.hd hc) _ l hlI is, ⟨st.1, _, intsIn_of rv, st.2⟩, hfp, List.length_pos_iff.mpr ne, ⟨?_, ?_, ?_, ?_⟩, ⟨H, I2, Same.refl _, fI, fS⟩, ?_⟩
  · rintro s1 s2 ⟨H1, I1, sm, f1, f2⟩ hm
    refine ⟨H1, Inv_two I1 f1 f2 (fun c o n1 n2 e => hm.heap c o (by simp [n1, n2]) e) hm.gens hm.os, sm, f1, f2⟩
  · exact fun i k s1 s2 h _ => h
  · rintro i v s1 o Q1 E1 hi ⟨t, rfl⟩ ⟨H1, I1, sm, f1, f2⟩ ⟨hit, its1, r1, l1⟩ hS cont
    have z : is.getD i 0 ∈ is := by
      rw [List.getD_eq_getElem?_getD, List.getElem?_eq_getElem hi]
      exact List.getElem_mem _
    have hl1 := sm _ _ hl
    have hq1 := sm _ _ hq
    refine wpAny_call (PySem.W.method_call (met_P I1 hq1).1 (codeAny_mono (F X.A.in1 X.stack s1 H1 [.ref a, .int (is.getD i 0) t] [.ref a, .int (is.getD i 0)] (fun x H2 => x = .int (key (is.getD i 0)) ∧ Same H1 H2) E0 hr.in1 I1.env0.in1 (.cons rfl (.cons ⟨t, rfl⟩ .nil)) (hsp _ z H1 _ sm fun H2 s2 => ⟨rfl, s2⟩)) fun r s2 hr2 => ?_))
    cases r with
    | error e => exact hr2.elim
    | ok fl =>
      cases fl with
      | ret u =>
        obtain ⟨x, H2, os, bare, un, hok, rx, ex, sm2⟩ := hr2
        subst ex
        have stk : ∀ {b : Addr}, FpOk X pins H1 b → b ∉ frs X.stack := fun f hb => (List.mem_cons.mp (I1.stkSub _ hb)).elim f.2.1 f.2.2.1
        have I3 : Inv X pins σ H2 s2 := I1.call' (ch := []) os un hok bare fun b z => nomatch z
        obtain ⟨oI, hoI, rI⟩ := hit
        have kI := un.keep _ _ hoI f1.1 (stk f1) (by simp)
        have kS := un.keep _ _ hS f2.1 (stk f2) (by simp)
        have nI : H2 s.heap.objs.size = none := un.free _ _ hoI f1.1 (by simp)
        have nS : H2 s₂.heap.objs.size = none := un.free _ _ hS f2.1 (by simp)
        obtain ⟨its3, rv3, pl3, _⟩ := I3.list (SqL.of (K := X.K) (sm2 _ _ hl1))
        exact cont u s2 ⟨H2, I3, sm.trans sm2, ⟨nI, f1.2⟩, ⟨nS, f2.2⟩⟩ ⟨⟨oI, kI, rI⟩, _, intsIn_of rv3, pl3.isList⟩ kS rx fun _ _ h => h
      | next => exact hr2.elim
      | brk => exact hr2.elim
      | cont => exact hr2.elim
  · rintro i j ki kj s1 Q1 E1 _ ⟨t1, rfl⟩ ⟨t2, rfl⟩ hQ
    exact lt_int hQ
  · rintro v s1 ⟨t, rfl⟩ ⟨H1, I1, sm, _⟩
    exact ⟨.int (minBy key is), H1, I1, ⟨t, rfl⟩, fin H1 sm⟩
/-- a method as a value -/
def tBound (C g : Addr) (m : Str) (ta : TE) : TE := fun σ H Q => ta σ H fun x H1 => ∃ a dx fs, x = .ref a ∧ H1 a = some (.ins C dx fs) ∧ fs.lookup m = none ∧ ∀ q, H1 q = none → Q (.ref q) (upd H1 q (.met g a))
theorem pe_bound {C g : Addr} {m : Str} {e : Expr} {ta : TE} {pos : Pos} (he : PE X e ta) (c : Cls X.K C) (b : BMeth X.K C m g) (hb : attributeBase e m X.env (eval e X.env) = eval e X.env := by rfl) : PE X (.Attribute e m pos) (tBound C g m ta) := by
  refine ⟨fun pins s σ H Q I h => ?_⟩
  refine attr_of hb (thn (he.run pins s σ H _ I h) fun u s1 ⟨x, H1, I1, rx, a, dx, fs, ex, ea, l, q⟩ => ?_)
  subst ex
  obtain rfl : u = Value.ref a := rx
  exact getbound_ok I1 ea c b l fun p s2 hp I2 => ⟨.ref p, _, I2, rfl, q p hp⟩
theorem fn_of_meth {P : Program} {w : World} {K : PySem.W.Frag} {mg : Str → Option Value} {base : Heap} {C g : Addr} {k : Nat} {m : Str} {ps : List Str} {sp : Sp} (h : HasM P w K mg base C k m ps sp) (b : BMeth K C m g) : FnR P w K mg base CX0 k g sp := by
  obtain ⟨f, fd, h1, h3, h4⟩ := h
  have e := h1.at_.symm.trans b.mt.at_
  injection e with e
  injection e with e
  injection e with e
  subst e
  refine (h3.raw h4 .nil).imp fun vs H Q E hs => ?_
  rw [List.append_nil]
  exact hs
end
end DR

set_option Elab.async false
set_option linter.all false
set_option maxRecDepth 100000
set_option maxHeartbeats 4000000
/-! ### min and max of a tuple of two ints -/
namespace DR
open PySem PySem.Spec PyProof.Rows L2
section
variable {prog : Program} {w : World} {A : Around} {E : Value → Shared → Prop} {s : Shared} {l : Addr} {its : Array Value}
theorem iter_anyTup {Q : Value → Shared → Prop} (hl : s.heap.IsTuple l its)
    (h : ∀ s₂ : Shared, s₂ = { s with heap := s.heap.push { cls := .type "tuple_iterator", data := .fields #[.ref l, .int 0 0] } } →
      (s₂.heap.IsTupleIter s.heap.objs.size l 0 ∧ s₂.heap.IsTuple l its) → (∀ b ∈ [s.heap.objs.size, l], b < s₂.heap.objs.size) → l ≠ s.heap.objs.size → Q (.ref s.heap.objs.size) s₂) :
    wpAny (model prog w) A (pyIter (.ref l)) Q E s := by
  have hlt : l < s.heap.objs.size := by
    obtain ⟨_, e, _⟩ := hl
    exact Heap.lt_size e
  refine wpAny_pyIter_tuple hl (h _ rfl ⟨⟨_, Heap.get?_push_size _ rfl, rfl, rfl⟩, hl.push _⟩ (fun b hb => ?_) (Nat.ne_of_lt hlt))
  show b < (s.heap.push _).objs.size
  rw [Heap.size_push]
  rcases List.mem_cons.mp hb with rfl | hb
  · exact Nat.lt_succ_self _
  · rcases List.mem_cons.mp hb with rfl | hb
    · exact Nat.lt_succ_of_lt hlt
    · cases hb
end
def rMinT : List V → Hp → VK → Prop := fun vs H Q => ∃ (p : Addr) (a b : Int), vs = [.ref p] ∧ H p = some (.tup [.int a, .int b]) ∧ Q (.int (if b < a then b else a)) H
def rMaxT : List V → Hp → VK → Prop := fun vs H Q => ∃ (p : Addr) (a b : Int), vs = [.ref p] ∧ H p = some (.tup [.int a, .int b]) ∧ Q (.int (if b > a then b else a)) H
section
variable {X : Cx}
theorem moved_one {pins : List (Addr × Obj)} {σ : L2.St} {H : Hp} {s s' : Shared} {o : Obj} {v : V} {u : Value} {Q : VK} (I : Inv X pins σ H s) (hm : Moved [s.heap.objs.size] (fun a b => b = a) { s with heap := s.heap.push o } s') (r : RelV v u) (q : Q v H) : EP X pins σ Q u s' := by
  obtain ⟨hp', g', d', tk', os'⟩ := s'
  obtain ⟨m1, m2, m3, m4, m5⟩ := hm
  cases m2
  cases m3
  cases m4
  refine ⟨v, H, I.kept (t' := tk') fun b o e => m1 b o ?_ (Heap.get?_push_of_some _ e), r, q⟩
  have : b ≠ s.heap.objs.size := Nat.ne_of_lt (Heap.lt_size e)
  simpa using this
theorem two_at {a b : Int} {us : List Value} (r : Vals [.int a, .int b] us) : us.toArray.size = 2 ∧ ∀ (k : Nat) (v : Value), us.toArray[k]? = some v → ∃ t, v = Value.int ([a, b].getD k 0) t := by
  have z := intsIn_of (is := [a, b]) r
  exact z
theorem cr_minT (hc : X.calm = true) : CallR X (.builtin "min") rMinT := by
  intro pins s σ H vs us Q I r h
  obtain ⟨p, a, b, rfl, hp, q⟩ := h
  obtain ⟨its, rv, hl, _⟩ := I.tuple (SqT.of (K := X.K) hp)
  rw [Vals.ref1 r]
  obtain ⟨hz, hi⟩ := two_at rv
  refine call_min_walkH (iter_anyTup hl fun s₂ e st hfp hlI => ?_)
  subst e
  refine ⟨_, _, _, _, _, _, _, s.heap, fun i j => decide ([a, b].getD i 0 < [a, b].getD j 0), rfl, (Walks.tuple (A := X.A.in1) (I.ok.hd hc) _ p hlI its.toArray).toS, st, hfp, by rw [hz]; decide, ?_, fun b o e => Heap.get?_push_of_some _ e, ?_, fun v s' hP hm => ?_⟩
  · intro c o e hb
    have : c = s.heap.objs.size := by simpa using hb
    rw [this] at e
    exact Nat.lt_irrefl _ (Heap.lt_size e)
  · intro i j vi vj s1 Q1 E1 keep h1 h2 hQ
    obtain ⟨t1, rfl⟩ := hi i vi h1
    obtain ⟨t2, rfl⟩ := hi j vj h2
    exact lt_int hQ
  · obtain ⟨t, rfl⟩ := hi _ v hP
    refine moved_one (v := .int ([a, b].getD (argBest (fun i j => decide ([a, b].getD i 0 < [a, b].getD j 0)) (its.toArray.size - 1)) 0)) I hm ⟨t, rfl⟩ ?_
    rw [hz]
    have e : argBest (fun i j => decide ([a, b].getD i 0 < [a, b].getD j 0)) 1 = if decide (b < a) = true then 1 else 0 := rfl
    rw [show 2 - 1 = 1 from rfl, e]
    by_cases c : b < a
    · rw [if_pos (decide_eq_true c)]
      rw [if_pos c] at q
      exact q
    · rw [if_neg (by simp [c])]
      rw [if_neg c] at q
      exact q
theorem cr_maxT (hc : X.calm = true) : CallR X (.builtin "max") rMaxT := by
  intro pins s σ H vs us Q I r h
  obtain ⟨p, a, b, rfl, hp, q⟩ := h
  obtain ⟨its, rv, hl, _⟩ := I.tuple (SqT.of (K := X.K) hp)
  rw [Vals.ref1 r]
  obtain ⟨hz, hi⟩ := two_at rv
  refine call_max_walkH (iter_anyTup hl fun s₂ e st hfp hlI => ?_)
  subst e
  refine ⟨_, _, _, _, _, _, _, s.heap, fun i j => decide ([a, b].getD j 0 < [a, b].getD i 0), rfl, (Walks.tuple (A := X.A.in1) (I.ok.hd hc) _ p hlI its.toArray).toS, st, hfp, by rw [hz]; decide, ?_, fun b o e => Heap.get?_push_of_some _ e, ?_, fun v s' hP hm => ?_⟩
  · intro c o e hb
    have : c = s.heap.objs.size := by simpa using hb
    rw [this] at e
    exact Nat.lt_irrefl _ (Heap.lt_size e)
  · intro i j vi vj s1 Q1 E1 keep h1 h2 hQ
    obtain ⟨t1, rfl⟩ := hi i vi h1
    obtain ⟨t2, rfl⟩ := hi j vj h2
    exact PyProof.Rows.gt_int hQ
  · obtain ⟨t, rfl⟩ := hi _ v hP
    refine moved_one (v := .int ([a, b].getD (argBest (fun i j => decide ([a, b].getD j 0 < [a, b].getD i 0)) (its.toArray.size - 1)) 0)) I hm ⟨t, rfl⟩ ?_
    rw [hz]
    have e : argBest (fun i j => decide ([a, b].getD j 0 < [a, b].getD i 0)) 1 = if decide (a < b) = true then 1 else 0 := rfl
    rw [show 2 - 1 = 1 from rfl, e]
    by_cases c : a < b
    · rw [if_pos (decide_eq_true c)]
      rw [if_pos c] at q
      exact q
    · rw [if_neg (by simp [c])]
      rw [if_neg c] at q
      exact q
end
end DR

set_option Elab.async false
set_option linter.all false
set_option maxRecDepth 100000
set_option maxHeartbeats 4000000
namespace DR
open PySem PySem.Spec PyProof.Rows L2
section
variable {P : Program} {w : World} {K : PySem.W.Frag} {mg : Str → Option Value} {base : Heap} {C CS : Addr}
/-! #### leaf_of -/
def LeafAt (G H : Hp) (t : Addr) (n : Nat) (I U : List (List Int)) : Prop :=
  (∃ p : Int, 0 ≤ p ∧ p < n ∧ H t = some (.tup [.str "few", .int p]) ∧ (row I p).length + (row U p).length < 2) ∨
  (∃ p : Int, 0 ≤ p ∧ p < n ∧ H t = some (.tup [.str "three", .int p]) ∧ 2 < (row I p).length) ∨
  (∃ (p : Int) (r : Addr) (w : List Int), 0 ≤ p ∧ p < n ∧ H t = some (.tup [.str "ring", .ref r]) ∧ OrdAt H r w ∧ IsWay n I p w ∧ (row I p).length = 2 ∧ lastOf w ∈ row I p ∧ 2 < w.length ∧ G r = none)
def spLeaf (C : Addr) : Sp := fun vs H Q _ => ∃ (s : Addr) (n : Nat) (I U : List (List Int)), vs = [.ref s] ∧ SaidAt C H s I U ∧ SaidOk n I U ∧ n ≤ 12 ∧
  ∀ H', Same H H' → (NoLeaf n I U → Q .non H') ∧ ∀ t, LeafAt H H' t n I U → Q (.ref t) H'
abbrev nLeaf : List Str := ["said", "place", "ins", "way"]
theorem scLeaf : FnScope nLeaf ["said"] (defScope s_leaf_of) := ⟨rfl, rfl, rfl, by decide +kernel, rfl, by decide +kernel, by decide +kernel⟩
theorem ll_enum {H : Hp} {l : Addr} {L : List (List Int)} {as : List Addr} {i : Nat} {y : V} (o : OrdsAs H as L) (h : (as.map V.ref)[i]? = some y) : ∃ a, y = .ref a ∧ OrdAt H a (row L (i : Int)) := by
  obtain ⟨a, rfl, ha⟩ := refs_at' h
  have hl := o.length
  have hi := (List.getElem?_eq_some_iff.mp ha).1
  obtain ⟨a', ha', oa⟩ := o.at_ (i := i) (os := L[i]'(by omega)) (List.getElem?_eq_getElem (by omega))
  rw [ha] at ha'
  cases ha'
  refine ⟨a, rfl, ?_⟩
  unfold row
  rw [Int.toNat_natCast, List.getD_eq_getElem?_getD, List.getElem?_eq_getElem (by omega)]
  exact oa
theorem has_leaf (D : IsDef K mg "leaf_of" s_leaf_of) (B : Blt mg) (T : STxt K mg CS) (MN : HasM P w K mg base CS 1 "many_not_out" ["self", "place"] (spMno CS)) (WF : Has P w K mg base 1 "way_from" ["ins", "first"] spWay) : Has P w K mg base 2 "leaf_of" ["said"] (spLeaf CS) := by
  refine has_of D scLeaf (fun _ _ _ _ _ _ us hl => match us, hl with | [_], _ => rfl) (fun vs H Q E h => ?_) (fun f cdv A outer s H vs Q E hr h => ?_)
  · obtain ⟨s, n, I, U, rfl, _⟩ := h
    rfl
  · obtain ⟨sa, n, I, U, rfl, hs, ok, n12, q⟩ := h
    refine ⟨_, pss_cons (ps_for PassesOwn.never rfl (pi_enum (by rfl) B.enumerate (pa_cons (pe_fld (pv 0) rfl) pa_nil)) (pg_tup rfl (pgs_cons (pg_name (i := 1) scLeaf.nd rfl (.inl rfl)) (pgs_cons (pg_name (i := 2) scLeaf.nd rfl (.inl rfl)) pgs_nil)))
        (pss_cons (ps_if (pt_cmpR op_lt (pe_hasM (pv 0) T.cl MN hr (by decide) (pa_cons (pv 1) pa_nil)) pe_int (nomark _)) (pss_one (ps_ret (pe_tup (pa_cons pe_str (pa_cons (pv 1) pa_nil))))) pss_nil)
        (pss_one (ps_if (pt_cmpR op_gt (pe_callB call_len_seq (by rfl) B.len PySem.boot_len (pa_cons (pv 2) pa_nil)) pe_int (nomark _)) (pss_one (ps_ret (pe_tup (pa_cons pe_str (pa_cons (pv 1) pa_nil))))) pss_nil))))
      (pss_cons (ps_for PassesOwn.never rfl (pi_enum (by rfl) B.enumerate (pa_cons (pe_fld (pv 0) rfl) pa_nil)) (pg_tup rfl (pgs_cons (pg_name (i := 1) scLeaf.nd rfl (.inl rfl)) (pgs_cons (pg_name (i := 2) scLeaf.nd rfl (.inl rfl)) pgs_nil)))
        (pss_cons (ps_set (i := 3) scLeaf.nd rfl (.inl rfl) (pe_has WF hr (by decide) (by rfl) (pa_cons (pe_fld (pv 0) rfl) (pa_cons (pv 1) pa_nil))))
        (pss_one (ps_if (PW.pt (pw_and (pt_cmpR op_eq (pe_callB call_len_seq (by rfl) B.len PySem.boot_len (pa_cons (pv 2) pa_nil)) pe_int (nomark _)) (pw_and (pt_cmpR (r := rIn K false) op_in_seq (pe_ix (r := rIxL K) ix_list (pv 3) (pe_un un_neg pe_int) (fun _ _ => rfl)) (pv 2) (by with_unfolding_all rfl)) (pw_and1 (pt_cmpR op_gt (pe_callB call_len_seq (by rfl) B.len PySem.boot_len (pa_cons (pv 3) pa_nil)) pe_int (nomark _))))))
          (pss_one (ps_ret (pe_tup (pa_cons pe_str (pa_cons (pv 3) pa_nil))))) pss_nil))))
      (pss_one (ps_ret pe_non))), ?_⟩
    obtain ⟨dx, li, lu, ha, ⟨as, eI, oI⟩, hU⟩ := id hs
    have la := oI.length
    have li_ := ok.li
    refine ⟨_, rfl, sa, CS, dx, _, _, rfl, ha, T.cl, T.nI, look_sI li lu, li, _, rfl, SqL.of eI, for_it (walk_enum (K := K) (a := li) (xs := as.map V.ref)) (fun i σ H2 => ∃ x1 x2, σ = [some (.ref sa), x1, x2, none] ∧ Same H H2 ∧ ∀ p : Int, 0 ≤ p → p < i → 2 ≤ (row I p).length + (row U p).length ∧ (row I p).length ≤ 2)
      ⟨none, none, rfl, Same.refl _, fun p p0 p1 => absurd p1 (by omega)⟩ (fun i σ H2 _ ⟨_, _, _, s2, _⟩ => SqL.of (s2 _ _ eI)) ?_ ?_⟩
    · rintro i v σ H2 H3 hi ⟨x1, x2, rfl, s2, ih⟩ ⟨T_, x, y, rfl, nT, rfl, ex, ey⟩
      cases ex
      obtain ⟨r, rfl, or_⟩ := ll_enum (l := li) (oI.same s2) ey
      rw [List.length_map] at hi
      have s3 := s2.trans (same_new (o := .tup [.int (i : Nat), .ref r]) nT)
      have or3 := or_.same (same_new (o := .tup [.int (i : Nat), .ref r]) nT)
      refine ⟨T_, _, rfl, SqT.of upd_same, rfl, _, _, rfl, _, _, rfl, rfl, ?_⟩
      generalize upd H2 T_ (.tup [.int (i : Nat), .ref r]) = H3 at s3 or3
      have i1 : (i : Int) < n := by omega
      refine ⟨_, rfl, sa, dx, _, rfl, s3 _ _ ha, look_sM li lu, _, rfl, sa, n, I, U, (i : Int), rfl, hs.same s3, ok, by omega, i1, _, _, rfl, rfl, _, rfl, ite2 (fun c => ?_) (fun c => ?_)⟩
      · refine ⟨_, rfl, by show 2 ≤ sizeLine; decide, fun t nt => ?_⟩
        have c := of_decide_eq_true c
        unfold mno at c
        exact (q _ (s3.trans (same_new nt))).2 t (.inl ⟨i, by omega, i1, upd_same, by omega⟩)
      · have c : ¬ mno I U i < 2 := fun z => c (decide_eq_true z)
        unfold mno at c
        refine ⟨_, rfl, r, _, rfl, .inl or3.sq, _, _, rfl, rfl, _, rfl, ite2 (fun c2 => ?_) (fun c2 => ?_)⟩
        · refine ⟨_, rfl, by show 2 ≤ sizeLine; decide, fun t nt => ?_⟩
          have c2 := of_decide_eq_true c2
          rw [List.length_map] at c2
          exact (q _ (s3.trans (same_new nt))).2 t (.inr (.inl ⟨i, by omega, i1, upd_same, by omega⟩))
        · rw [decide_eq_true_eq, List.length_map] at c2
          refine ⟨_, _, rfl, s3, fun p p0 p1 => ?_⟩
          by_cases e : p = (i : Int)
          · subst e
            omega
          · exact ih p p0 (by omega)
    · rintro σ H2 ⟨x1, x2, rfl, s2, ih⟩
      rw [List.length_map, la, li_] at ih
      refine ⟨_, rfl, sa, CS, dx, _, _, rfl, s2 _ _ ha, T.cl, T.nI, look_sI li lu, li, _, rfl, SqL.of (s2 _ _ eI), for_it (walk_enum (K := K) (a := li) (xs := as.map V.ref)) (fun i σ H3 => ∃ x1 x2 x3, σ = [some (.ref sa), x1, x2, x3] ∧ Same H H3 ∧ ∀ p : Int, 0 ≤ p → p < i → ∃ w, IsWay n I p w ∧ ¬ ((row I p).length = 2 ∧ lastOf w ∈ row I p ∧ 2 < w.length))
        ⟨_, _, _, rfl, s2, fun p p0 p1 => absurd p1 (by omega)⟩ (fun i σ H3 _ ⟨_, _, _, _, s3, _⟩ => SqL.of (s3 _ _ eI)) ?_ ?_⟩
      · rintro i v σ H3 H4 hi ⟨x1, x2, x3, rfl, s3, ih2⟩ ⟨T_, x, y, rfl, nT, rfl, ex, ey⟩
        cases ex
        obtain ⟨r, rfl, or_⟩ := ll_enum (l := li) (oI.same s3) ey
        rw [List.length_map] at hi
        have s4 := s3.trans (same_new (o := .tup [.int (i : Nat), .ref r]) nT)
        have or4 := or_.same (same_new (o := .tup [.int (i : Nat), .ref r]) nT)
        refine ⟨T_, _, rfl, SqT.of upd_same, rfl, _, _, rfl, _, _, rfl, rfl, ?_⟩
        generalize upd H3 T_ (.tup [.int (i : Nat), .ref r]) = H4 at s4 or4
        have i1 : (i : Int) < n := by omega
        refine ⟨_, rfl, sa, CS, dx, _, _, rfl, s4 _ _ ha, T.cl, T.nI, look_sI li lu, _, rfl, li, n, I, U, (i : Int), rfl, ⟨as, s4 _ _ eI, oI.same s4⟩, ok, n12, by omega, i1, fun H5 wr wy s5 nwr owy way => ?_⟩
        have s45 := s4.trans s5
        have or5 := or4.same s5
        have wne := way.ne
        have next : ¬ ((row I i).length = 2 ∧ lastOf wy ∈ row I i ∧ 2 < wy.length) → ∃ x1 x2 x3, [some (V.ref sa), some (.int (i : Nat)), some (.ref r), some (.ref wr)] = [some (V.ref sa), x1, x2, x3] ∧ Same H H5 ∧ ∀ p : Int, 0 ≤ p → p < ((i + 1 : Nat) : Int) → ∃ w, IsWay n I p w ∧ ¬ ((row I p).length = 2 ∧ lastOf w ∈ row I p ∧ 2 < w.length) := fun no => by
          refine ⟨_, _, _, rfl, s45, fun p p0 p1 => ?_⟩
          by_cases e : p = (i : Int)
          · subst e
            exact ⟨wy, way, no⟩
          · exact ih2 p p0 (by omega)
        refine ⟨_, rfl, r, _, rfl, .inl or5.sq, rfl, _, rfl, ite2 (fun c => ?_) (fun c => ?_)⟩
        · have c : (row I i).length = 2 := by
            have := of_decide_eq_true c
            injection this with this
            rw [List.length_map] at this
            omega
          refine ⟨_, rfl, _, rfl, wr, _, _, _, rfl, rfl, owy.sq, owy.atI_end wne, _, rfl, r, _, rfl, .inl or5.sq, rfl, flat_intsV _, _, rfl, ?_⟩
          simp only [Bool.false_eq_true, if_false]
          rw [inV_dec]
          by_cases mem : lastOf wy ∈ row I i
          · rw [show decide (wy.getD (wy.length - 1) 0 ∈ row I i) = true from decide_eq_true mem]
            refine iteT ?_
            refine ⟨_, rfl, wr, _, rfl, .inl owy.sq, _, _, rfl, rfl, _, rfl, ?_⟩
            rw [List.length_map]
            refine ite2 (fun c2 => ?_) (fun c2 => next ?_)
            · have c2 := of_decide_eq_true c2
              refine ⟨_, rfl, by show 2 ≤ sizeLine; decide, fun t nt => ?_⟩
              have s6 := same_new (o := .tup [.str "ring", .ref wr]) nt
              exact (q _ (s45.trans s6)).2 t (.inr (.inr ⟨i, wr, wy, by omega, i1, upd_same, owy.same s6, way, c, mem, by omega, s4.free nwr⟩))
            · rintro ⟨_, _, z⟩
              exact c2 (decide_eq_true (by omega))
          · rw [show decide (wy.getD (wy.length - 1) 0 ∈ row I i) = false from decide_eq_false mem]
            refine iteF ?_
            exact next fun z => mem z.2.1
        · refine iteF (next fun z => c (decide_eq_true ?_))
          rw [List.length_map, z.1]
          rfl
      · rintro σ H3 ⟨x1, x2, x3, rfl, s3, ih2⟩
        rw [List.length_map, la, li_] at ih2
        exact (q _ s3).1 ⟨ih, ih2⟩
end
end DR

set_option Elab.async false
set_option linter.all false
set_option maxRecDepth 100000
set_option maxHeartbeats 4000000
namespace DR
open PySem PySem.Spec PyProof.Rows L2
section
variable {P : Program} {w : World} {K : PySem.W.Frag} {mg : Str → Option Value} {base : Heap} {C CS : Addr}
/-! #### barred_tie -/
def spBarred (C : Addr) : Sp := fun vs H Q _ => ∃ (s : Addr) (n : Nat) (I U : List (List Int)), vs = [.ref s] ∧ SaidAt C H s I U ∧ SaidOk n I U ∧ n ≤ 12 ∧
  ∀ H', Same H H' → Q .non H' ∧ ∀ (t : Addr) (p x : Int), 0 ≤ p → p < n → x ∈ row U p → TupAt H' t [p, x] → Q (.ref t) H'
abbrev nBarred : List Str := ["said", "place", "others", "ins", "end"]
theorem scBarred : FnScope nBarred ["said"] (defScope s_barred_tie) := ⟨rfl, rfl, rfl, by decide +kernel, rfl, by decide +kernel, by decide +kernel⟩
theorem has_barred (D : IsDef K mg "barred_tie" s_barred_tie) (B : Blt mg) (T : STxt K mg CS) (WF : Has P w K mg base 1 "way_from" ["ins", "first"] spWay) : Has P w K mg base 2 "barred_tie" ["said"] (spBarred CS) := by
  refine has_of D scBarred (fun _ _ _ _ _ _ us hl => match us, hl with | [_], _ => rfl) (fun vs H Q E h => ?_) (fun f cdv A outer s H vs Q E hr h => ?_)
  · obtain ⟨s, n, I, U, rfl, _⟩ := h
    rfl
  · obtain ⟨sa, n, I, U, rfl, hs, ok, n12, q⟩ := h
    refine ⟨_, pss_cons (ps_for PassesOwn.never rfl (pi_enum (by rfl) B.enumerate (pa_cons (pe_fld (pv 0) rfl) pa_nil)) (pg_tup rfl (pgs_cons (pg_name (i := 1) scBarred.nd rfl (.inl rfl)) (pgs_cons (pg_name (i := 2) scBarred.nd rfl (.inl rfl)) pgs_nil)))
        (pss_cons (ps_set (i := 3) scBarred.nd rfl (.inl rfl) (pe_ix (r := rIxL K) ix_list (pe_fld (pv 0) rfl) (pv 1) (fun _ _ => rfl)))
        (pss_cons (ps_if (PW.pt (pw_and (pt_truth (pv 2) (by intro _; rfl)) (pw_and1 (pt_cmpR op_eq (pe_callB call_len_seq (by rfl) B.len PySem.boot_len (pa_cons (pv 3) pa_nil)) pe_int (nomark _)))))
          (pss_one (ps_ret (pe_tup (pa_cons (pv 1) (pa_cons (pe_ix (r := rIxL K) ix_list (pv 2) pe_int (fun _ _ => rfl)) pa_nil))))) pss_nil)
        (pss_cons (ps_set (i := 4) scBarred.nd rfl (.inl rfl) (pe_ix (r := rIxL K) ix_list (pe_has WF hr (by decide) (by rfl) (pa_cons (pe_fld (pv 0) rfl) (pa_cons (pv 1) pa_nil))) (pe_un un_neg pe_int) (fun _ _ => rfl)))
        (pss_one (ps_if (PW.pt (pw_and (pt_cmpR op_eq (pe_callB call_len_seq (by rfl) B.len PySem.boot_len (pa_cons (pv 3) pa_nil)) pe_int (nomark _)) (pw_and1 (pt_cmpR (r := rIn K false) op_in_seq (pv 4) (pv 2) (by with_unfolding_all rfl)))))
          (pss_one (ps_ret (pe_tup (pa_cons (pv 1) (pa_cons (pv 4) pa_nil))))) pss_nil))))))
      (pss_one (ps_ret pe_non)), ?_⟩
    obtain ⟨dx, li, lu, ha, hI, ⟨as, eU, oU⟩⟩ := id hs
    have la := oU.length
    have lu_ := ok.lu
    refine ⟨_, rfl, sa, CS, dx, _, _, rfl, ha, T.cl, T.nU, look_sU li lu, lu, _, rfl, SqL.of eU, for_it (walk_enum (K := K) (a := lu) (xs := as.map V.ref)) (fun i σ H2 => ∃ x1 x2 x3 x4, σ = [some (.ref sa), x1, x2, x3, x4] ∧ Same H H2)
      ⟨none, none, none, none, rfl, Same.refl _⟩ (fun i σ H2 _ ⟨_, _, _, _, _, s2⟩ => SqL.of (s2 _ _ eU)) ?_ ?_⟩
    · rintro i v σ H2 H3 hi ⟨x1, x2, x3, x4, rfl, s2⟩ ⟨T_, x, y, rfl, nT, rfl, ex, ey⟩
      cases ex
      obtain ⟨r, rfl, or_⟩ := ll_enum (l := lu) (oU.same s2) ey
      rw [List.length_map] at hi
      have s3 := s2.trans (same_new (o := .tup [.int (i : Nat), .ref r]) nT)
      have or3 := or_.same (same_new (o := .tup [.int (i : Nat), .ref r]) nT)
      refine ⟨T_, _, rfl, SqT.of upd_same, rfl, _, _, rfl, _, _, rfl, rfl, ?_⟩
      generalize upd H2 T_ (.tup [.int (i : Nat), .ref r]) = H3 at s3 or3
      have i0 : (0 : Int) ≤ i := by omega
      have i1 : (i : Int) < n := by omega
      obtain ⟨xs3, r3, e3, _, t3, o3⟩ := (hI.same s3).at_ i0 (by rw [ok.li]; exact i1)
      refine ⟨_, rfl, sa, CS, dx, _, _, rfl, s3 _ _ ha, T.cl, T.nI, look_sI li lu, _, rfl, li, _, _, _, rfl, rfl, SqL.of e3, t3, ?_⟩
      refine ⟨_, rfl, _, .inl ⟨_, or3.sq, rfl⟩, ?_⟩
      have rest : ∀ x4, ∃ x1 x2 x3 x4', [some (V.ref sa), some (.int (i : Nat)), some (.ref r), some (.ref r3), x4] = [some (V.ref sa), x1, x2, x3, x4'] ∧ Same H H3 := fun x4 => ⟨_, _, _, _, rfl, s3⟩
      have go : ∀ R : Prop, R → R := fun _ h => h
      -- the second half
      have half : ∀ (D : Ends), (∀ σ' H', (∃ x1 x2 x3 x4, σ' = [some (V.ref sa), x1, x2, x3, x4] ∧ Same H H') → D.nx σ' H') → D.rt = Q → True := fun _ _ _ => trivial
      cases hrow : row U (i : Int) with
      | nil =>
        rw [hrow] at or3
        refine iteF (iteF ?_)
        refine ⟨_, rfl, sa, CS, dx, _, _, rfl, s3 _ _ ha, T.cl, T.nI, look_sI li lu, _, rfl, li, n, I, U, (i : Int), rfl, hI.same s3, ok, n12, i0, i1, fun H5 wr wy s5 _ owy way => ?_⟩
        have s35 := s3.trans s5
        have wne := way.ne
        refine ⟨_, rfl, wr, _, _, _, rfl, rfl, owy.sq, owy.atI_end wne, _, rfl, r3, _, rfl, .inl (o3.same s5).sq, rfl, _, rfl, ite2 (fun c => ?_) (fun c => ?_)⟩
        · refine ⟨_, rfl, _, rfl, r, _, rfl, .inl (or3.same s5).sq, rfl, flat_intsV _, _, rfl, ?_⟩
          simp only [Bool.false_eq_true, if_false]
          rw [inV_dec]
          exact iteF ⟨_, _, _, _, rfl, s35⟩
        · exact iteF ⟨_, _, _, _, rfl, s35⟩
      | cons x0 xs0 =>
        have m0 : x0 ∈ row U (i : Int) := by
          rw [hrow]
          simp
        rw [hrow] at or3
        refine iteT ⟨_, rfl, r3, _, rfl, .inl o3.sq, rfl, _, rfl, ite2 (fun c => ?_) (fun c => ?_)⟩
        · refine ⟨_, rfl, _, rfl, r, _, _, _, rfl, rfl, or3.sq, atI_nat (j := 0) rfl, by show 2 ≤ sizeLine; decide, fun t nt => ?_⟩
          exact (q _ (s3.trans (same_new nt))).2 t i x0 i0 i1 m0 upd_same
        · refine ⟨_, rfl, sa, CS, dx, _, _, rfl, s3 _ _ ha, T.cl, T.nI, look_sI li lu, _, rfl, li, n, I, U, (i : Int), rfl, hI.same s3, ok, n12, i0, i1, fun H5 wr wy s5 _ owy way => ?_⟩
          have s35 := s3.trans s5
          have wne := way.ne
          refine ⟨_, rfl, wr, _, _, _, rfl, rfl, owy.sq, owy.atI_end wne, _, rfl, r3, _, rfl, .inl (o3.same s5).sq, rfl, _, rfl, ite2 (fun c => ?_) (fun c => ?_)⟩
          · refine ⟨_, rfl, _, rfl, r, _, rfl, .inl (or3.same s5).sq, rfl, flat_intsV _, _, rfl, ?_⟩
            simp only [Bool.false_eq_true, if_false]
            rw [inV_dec, ← hrow]
            refine ite2 (fun mem => ?_) (fun _ => ⟨_, _, _, _, rfl, s35⟩)
            refine ⟨_, rfl, _, rfl, by show 2 ≤ sizeLine; decide, fun t nt => ?_⟩
            exact (q _ (s35.trans (same_new nt))).2 t i _ i0 i1 (of_decide_eq_true mem) upd_same
          · exact iteF ⟨_, _, _, _, rfl, s35⟩
    · rintro σ H2 ⟨x1, x2, x3, x4, rfl, s2⟩
      exact (q _ s2).1
/-! #### tightest_tie -/
def spTight (C : Addr) : Sp := fun vs H Q _ => ∃ (s : Addr) (n : Nat) (I U : List (List Int)), vs = [.ref s] ∧ SaidAt C H s I U ∧ SaidOk n I U ∧ n ≤ 12 ∧ (∃ p : Int, 0 ≤ p ∧ p < n ∧ row U p ≠ []) ∧
  ∀ (H' : Hp) (t : Addr) (p x : Int), Same H H' → 0 ≤ p → p < n → x ∈ row U p → TupAt H' t [p, x] → Q (.ref t) H'
abbrev nTight : List Str := ["said", "places", "one", "place", "others"]
theorem scTight : FnScope nTight ["said"] (defScope s_tightest_tie) := ⟨rfl, rfl, rfl, by decide +kernel, rfl, by decide +kernel, by decide +kernel⟩
theorem has_tight {g : Addr} (D : IsDef K mg "tightest_tie" s_tightest_tie) (B : Blt mg) (T : STxt K mg CS) (MN : HasM P w K mg base CS 1 "many_not_out" ["self", "place"] (spMno CS)) (bm : BMeth K CS "many_not_out" g) : Has P w K mg base 3 "tightest_tie" ["said"] (spTight CS) := by
  refine has_of D scTight (fun _ _ _ _ _ _ us hl => match us, hl with | [_], _ => rfl) (fun vs H Q E h => ?_) (fun f cdv A outer s H vs Q E hr h => ?_)
  · obtain ⟨s, n, I, U, rfl, _⟩ := h
    rfl
  · obtain ⟨sa, n, I, U, rfl, hs, ok, n12, ⟨p0, p00, p01, pne⟩, q⟩ := h
    have F := fn_of_meth MN bm
    refine ⟨_, pss_cons (ps_setLc (i := 1) (own := [("place", 3), ("others", 4)]) (g := gTup K 2 (gCons (gName 3) (gCons (gName 4) gNil))) (tt := fun σ H Q => tVar 4 σ H fun x H' => ∃ k, TruV K x H' k ∧ Q k H') (by rfl) scTight.nd rfl rfl (sw_true rfl rfl rfl (by decide +kernel)) (pi_enum (by rfl) B.enumerate (pa_cons (pe_fld (pv 0) rfl) pa_nil)) (blkOk_by (N := nTight) (sc := defScope s_tightest_tie) (by decide +kernel))
          (fun _ _ _ _ _ => by exact (pg_tup rfl (pgs_cons (by exact (pg_name (i := 3) scTight.nd rfl (.inl rfl))) (pgs_cons (by exact (pg_name (i := 4) scTight.nd rfl (.inl rfl))) pgs_nil)))) (fun _ _ _ _ _ => pts_one (pt_truth (pv 4) (by intro _; rfl))) (fun _ _ _ _ _ => pv 3))
      (pss_cons (ps_set (i := 2) scTight.nd rfl (.inl rfl) (pe_callBK (cr_minKey rfl F hr) (by rfl) B.min (by decide +kernel) (pa_cons (pv 1) pa_nil) (pk_cons (pe_bound (pv 0) T.cl bm) pk_nil)))
      (pss_one (ps_ret (pe_tup (pa_cons (pv 2) (pa_cons (pe_callBK (cr_minKey rfl F hr) (by rfl) B.min (by decide +kernel) (pa_cons (pe_ix (r := rIxL K) ix_list (pe_fld (pv 0) rfl) (pv 2) (fun _ _ => rfl)) pa_nil) (pk_cons (pe_bound (pv 0) T.cl bm) pk_nil)) pa_nil)))))), ?_⟩
    obtain ⟨dx, li, lu, ha, hI, ⟨as, eU, oU⟩⟩ := id hs
    have la := oU.length
    have lu_ := ok.lu
    refine ⟨_, rfl, sa, CS, dx, _, _, rfl, ha, T.cl, T.nU, look_sU li lu, lu, _, rfl, SqL.of eU, fun D nD => ?_⟩
    have lD : lu ≠ D := ne_of_none eU nD
    refine lc_it (walk_enum (K := K) (a := lu) (xs := as.map V.ref)) (g := gTup K 2 (gCons (gName 3) (gCons (gName 4) gNil))) (tt := fun σ H Q => tVar 4 σ H fun x H' => ∃ k, TruV K x H' k ∧ Q k H') (te := tVar 3) (vs := [3, 4]) (σ := L2.start nTight [V.ref sa]) (fun i H2 => Kp D H H2 ∧ OrdAt H2 D (((upTo n).take i).filter fun p => !(row U p).isEmpty)) ⟨Kp.put _ _ _, upd_same⟩ (fun i H2 _ ⟨k, _⟩ => SqL.of (k _ _ lD eU)) ?_ ?_
    · rintro i v H2 H3 hi ⟨k2, eD⟩ ⟨T_, x, y, rfl, nT, rfl, ex, ey⟩
      cases ex
      have s2 : Same H H2 := fun c o e => k2 c o (ne_of_none e nD) e
      obtain ⟨r, rfl, or_⟩ := ll_enum (l := lu) (oU.same s2) ey
      rw [List.length_map] at hi
      have st := same_new (o := .tup [.int (i : Nat), .ref r]) nT
      have or3 := or_.same st
      have eD3 := eD.same st
      have k3 : Kp D H (upd H2 T_ (.tup [.int (i : Nat), .ref r])) := k2.trans (Same.kp st D)
      refine ⟨T_, _, rfl, SqT.of upd_same, rfl, _, _, rfl, _, _, rfl, rfl, rfl, ?_⟩
      generalize upd H2 T_ (.tup [.int (i : Nat), .ref r]) = H3 at or3 eD3 k3
      have tk : ((upTo n).take (i + 1)).filter (fun p => !(row U p).isEmpty) = ((upTo n).take i).filter (fun p => !(row U p).isEmpty) ++ [(i : Int)].filter (fun p => !(row U p).isEmpty) := by
        rw [List.take_succ, List.filter_append]
        congr 2
        unfold upTo
        rw [List.getElem?_map, List.getElem?_range (by omega)]
        rfl
      have lf := List.length_filter_le (fun p => !(row U p).isEmpty) ((upTo n).take i)
      rw [List.length_take] at lf
      refine ⟨_, rfl, _, .inl ⟨_, or3.sq, rfl⟩, ?_⟩
      rw [tk]
      cases hrow : row U (i : Int) with
      | nil =>
        refine iteF ⟨k3, ?_⟩
        rw [List.filter_cons, if_neg (by rw [hrow]; exact Bool.false_ne_true), List.filter_nil, List.append_nil]
        exact eD3
      | cons x0 xs0 =>
        refine iteT ⟨_, rfl, _, eD3, ?_, k3.trans (Kp.put _ _ _), ?_⟩
        · rw [List.length_map]
          exact small1000 (by omega)
        · show upd _ _ _ _ = _
          rw [upd_same, List.filter_cons, if_pos (by rw [hrow]; rfl), List.filter_nil, List.map_append]
          rfl
    · rintro H2 ⟨k2, eD⟩
      have s2 : Same H H2 := fun c o e => k2 c o (ne_of_none e nD) e
      have e0 : (upTo n).take (as.map V.ref).length = upTo n := by rw [List.length_map, la, lu_, List.take_of_length_le (by rw [upTo_len]; exact Nat.le_refl _)]
      rw [e0] at eD
      have mem : ∀ z ∈ (upTo n).filter fun p => !(row U p).isEmpty, 0 ≤ z ∧ z < n ∧ row U z ≠ [] := fun z hz => by
        obtain ⟨h1, h2⟩ := List.mem_filter.mp hz
        have := upTo_mem.mp h1
        refine ⟨this.1, this.2, fun e => ?_⟩
        rw [e] at h2
        cases h2
      have ne : (upTo n).filter (fun p => !(row U p).isEmpty) ≠ [] := fun e => by
        have : p0 ∈ (upTo n).filter fun p => !(row U p).isEmpty := List.mem_filter.mpr ⟨upTo_mem.mpr ⟨p00, p01⟩, by
          cases h : row U p0 with
          | nil => exact absurd h pne
          | cons _ _ => rfl⟩
        rw [e] at this
        cases this
      refine ⟨_, rfl, _, rfl, sa, dx, _, rfl, s2 _ _ ha, look_sM li lu, fun b1 nb1 => ?_⟩
      have sb := same_new (o := .met g sa) nb1
      refine ⟨D, sa, b1, _, mno I U, rfl, rfl, sb _ _ eD, upd_same, ne, fun z hz H3 R s3 fin => ?_, fun H3 s3 => ?_⟩
      · obtain ⟨z0, z1, _⟩ := mem z hz
        exact ⟨sa, n, I, U, z, rfl, ((hs.same s2).same sb).same s3, ok, z0, z1, fin _ (Same.refl _)⟩
      · have hm := minBy_mem (key := mno I U) ne
        generalize minBy (mno I U) ((upTo n).filter fun p => !(row U p).isEmpty) = one at hm
        obtain ⟨o0, o1, one_⟩ := mem one hm
        have s23 := (s2.trans sb).trans s3
        obtain ⟨xs3, r3, e3, _, t3, o3⟩ := (LLAt.same ⟨as, eU, oU⟩ s23).at_ (L := U) o0 (by rw [ok.lu]; exact o1)
        refine ⟨_, rfl, _, rfl, sa, CS, dx, _, _, rfl, s23 _ _ ha, T.cl, T.nU, look_sU li lu, _, rfl, lu, _, _, _, rfl, rfl, SqL.of e3, t3, _, rfl, sa, dx, _, rfl, s23 _ _ ha, look_sM li lu, fun b2 nb2 => ?_⟩
        have sb2 := same_new (o := .met g sa) nb2
        refine ⟨r3, sa, b2, _, mno I U, rfl, rfl, sb2 _ _ o3, upd_same, one_, fun z hz H4 R s4 fin => ?_, fun H4 s4 => ?_⟩
        · obtain ⟨z0, z1, _⟩ := ok.ru one z o0 o1 hz
          exact ⟨sa, n, I, U, z, rfl, ((hs.same s23).same sb2).same s4, ok, z0, z1, fin _ (Same.refl _)⟩
        · have hm2 := minBy_mem (key := mno I U) one_
          generalize minBy (mno I U) (row U one) = x at hm2
          refine ⟨by show 2 ≤ sizeLine; decide, fun t nt => ?_⟩
          exact q _ t one x (((s23.trans sb2).trans s4).trans (same_new nt)) o0 o1 hm2 upd_same
end
end DR

set_option Elab.async false
set_option linter.all false
set_option maxRecDepth 100000
set_option maxHeartbeats 4000000
namespace DR
open PySem PySem.Spec PyProof.Rows L2
/-! #### nothing_said -/
def rowT (n : Nat) (ps : List (Int × Int)) (p : Int) : List Int := (upTo n).filter (tied ps p)
def tiedRows (n : Nat) (ps : List (Int × Int)) : List (List Int) := (upTo n).map (rowT n ps)
section
variable {P : Program} {w : World} {K : PySem.W.Frag} {mg : Str → Option Value} {base : Heap} {C CS : Addr}
def spNothing (C CS : Addr) : Sp := fun vs H Q _ => ∃ (y : Addr) (n : Nat) (ps : List (Int × Int)), vs = [.ref y] ∧ YardAt C H y n ps ∧ 1 ≤ n ∧ n ≤ 30 ∧
  ∀ H' r, Same H H' → SaidAt CS H' r (List.replicate n []) (tiedRows n ps) → Q (.ref r) H'
abbrev nNS : List Str := ["yard", "places", "tied", "place", "other", "_"]
theorem scNS : FnScope nNS ["yard"] (defScope s_nothing_said) := ⟨rfl, rfl, rfl, by decide +kernel, rfl, by decide +kernel, by decide +kernel⟩
abbrev scNSo : Scope := ⟨.function, [(".0", .local), ("place", .cell), ("places", .cell), ("yard", .cell)], false, false, []⟩
theorem int_at {ls : List Int} {i : Nat} {v : V} (hv : (ls.map V.int)[i]? = some v) : ∃ z, v = .int z ∧ ls[i]? = some z := by
  rw [List.getElem?_map] at hv
  cases e : ls[i]? with
  | none =>
    rw [e] at hv
    cases hv
  | some u =>
    rw [e] at hv
    injection hv with hv
    exact ⟨u, hv.symm, rfl⟩
theorem has_nothing (D : IsDef K mg "nothing_said" s_nothing_said) (B : Blt mg) (TY : YTxt K mg C) (T : STxt K mg CS) (M : HasM P w K mg base C 1 "many" ["self"] (spMany C)) (TD : HasM P w K mg base C 1 "is_tied" ["self", "one", "other"] (spTied C))
    (SI : HasM P w K mg base CS 1 "__init__" ["self", "ins", "unsaid"] (spSInit CS)) (mk : PySem.W.makesIn K CS = true) (kc : PySem.W.keepIn K (.ref CS) = true) : Has P w K mg base 3 "nothing_said" ["yard"] (spNothing C CS) := by
  refine has_of D scNS (fun _ _ _ _ _ _ us hl => match us, hl with | [_], _ => rfl) (fun vs H Q E h => ?_) (fun f cdv A outer s H vs Q E hr h => ?_)
  · obtain ⟨y, n, ps, rfl, _⟩ := h
    rfl
  · obtain ⟨y, n, ps, rfl, hy, n1, n30, q⟩ := h
    refine ⟨_, pss_cons (ps_set (i := 1) scNS.nd rfl (.inr rfl) (pe_listRg rfl (by rfl) B.list (prg_1 (by rfl) B.range (pe_hasM0 (pv 0) TY.cl M hr (by decide)))))
      (pss_cons (ps_setLc (i := 2) (own := [("place", 3)]) (g := gName 3) (tt := tYes) (te := tLc (iList K (tVar 1)) (gName 4) (tB (tHasM C "is_tied" (spTied C) (tVar 0) (tCons (tVar 3) (tCons (tVar 4) tNil)))) (tVar 4) [4]) (by rfl) scNS.nd rfl rfl (sw_true rfl rfl rfl (by decide +kernel)) (pi_list (pv 1)) (blkOk_by (N := nNS) (sc := defScope s_nothing_said) (by decide +kernel)) (fun _ _ _ _ _ => pg_name (i := 3) scNS.nd rfl (.inr rfl))
          (fun _ _ _ _ _ => pts_nil) (fun _ _ _ _ _ => pe_lc (own := [("other", 4)]) (g := gName 4) (by rfl) scNS.nd (pi_list (pv 1)) (blkOk_by (N := nNS) (sc := scNSo) (by decide +kernel)) (fun _ _ _ _ _ => pg_name (i := 4) scNS.nd rfl (.inl rfl))
            (fun _ _ _ _ _ => pts_one (pt_val (pe_hasM (pv 0) TY.cl TD hr (by decide) (pa_cons (pv 3) (pa_cons (pv 4) pa_nil))))) (fun _ _ _ _ _ => pv 4)))
      (pss_one (ps_ret (pe_hasMk SI mk kc hr (by decide) (by rfl) T.mgC (pa_cons (pe_lc (own := [("_", 5)]) (g := gName 5) (tt := tYes) (te := tLst tNil) (by rfl) scNS.nd (pi_list (pv 1)) (blkOk_by (N := nNS) (sc := defScope s_nothing_said) (by decide +kernel)) (fun _ _ _ _ _ => pg_name (i := 5) scNS.nd rfl (.inl rfl)) (fun _ _ _ _ _ => pts_nil) (fun _ _ _ _ _ => pe_lst pa_nil)) (pa_cons (pv 2) pa_nil)))))), ?_⟩
    obtain ⟨dx, l, td, dg, g1, g2, g3, g4⟩ := id hy
    refine ⟨_, rfl, y, dx, _, rfl, g1, look_no n l td dg (by decide +kernel) (by decide +kernel) (by decide +kernel) (by decide +kernel), y, n, ps, rfl, hy, (n : Int), rfl, RgOk.of_le (by omega) (by omega) (by omega) (by omega), fun pl npl => ?_⟩
    rw [rgV_upTo]
    have s1 := same_new (o := .lst ((upTo n).map V.int)) npl
    have hp1 : OrdAt (upd H pl (.lst ((upTo n).map V.int))) pl (upTo n) := upd_same
    have hy1 := hy.same s1
    generalize upd H pl (.lst ((upTo n).map V.int)) = H1 at s1 hp1 hy1
    have ul := upTo_len n
    -- tied
    refine ⟨_, rfl, pl, rfl, ⟨_, hp1.sq⟩, fun D nD => ?_⟩
    have pD : pl ≠ D := ne_of_none hp1 nD
    refine lc_list (K := K) (a := pl) (xs := (upTo n).map V.int) (fun i H2 => Kp D H1 H2 ∧ ∃ as, H2 D = some (.lst (as.map V.ref)) ∧ OrdsAs H2 as (((upTo n).take i).map (rowT n ps)) ∧ ∀ a ∈ as, a ≠ D) ⟨Kp.put _ _ _, [], upd_same, .nil, fun a ha => by cases ha⟩ (fun i H2 _ ⟨k, _⟩ => SqL.of (k _ _ pD hp1)) ?_ ?_
    · rintro i v H2 hv ⟨k2, as, eD, oA, neD⟩
      obtain ⟨z, rfl, hz⟩ := int_at hv
      have hi := (List.getElem?_eq_some_iff.mp hz).1
      have tk : (upTo n).take (i + 1) = (upTo n).take i ++ [z] := by
        rw [List.take_succ, hz]
        rfl
      have s2 : Same H1 H2 := fun c o e => k2 c o (ne_of_none e nD) e
      have hp2 := hp1.same s2
      have hy2 := hy1.same s2
      refine ⟨rfl, ?_⟩
      refine ⟨_, rfl, pl, rfl, ⟨_, hp2.sq⟩, fun D2 nD2 => ?_⟩
      have pD2 : pl ≠ D2 := ne_of_none hp2 nD2
      have DD2 : D ≠ D2 := ne_of_none eD nD2
      refine lc_list (K := K) (a := pl) (xs := (upTo n).map V.int) (fun j H3 => Kp D2 H2 H3 ∧ OrdAt H3 D2 (((upTo n).take j).filter (tied ps z))) ⟨Kp.put _ _ _, upd_same⟩ (fun j H3 _ ⟨k, _⟩ => SqL.of (k _ _ pD2 hp2)) ?_ ?_
      · rintro j v2 H3 hv2 ⟨k3, eD2⟩
        obtain ⟨u, rfl, hu⟩ := int_at hv2
        have hj := (List.getElem?_eq_some_iff.mp hu).1
        have tk2 : (upTo n).take (j + 1) = (upTo n).take j ++ [u] := by
          rw [List.take_succ, hu]
          rfl
        have lf := List.length_filter_le (tied ps z) ((upTo n).take j)
        rw [List.length_take] at lf
        have s3 : Same H2 H3 := fun c o e => k3 c o (ne_of_none e nD2) e
        have hy3 := hy2.same s3
        obtain ⟨dx3, l3, td3, dg3, h1, h2, h3, h4⟩ := id hy3
        refine ⟨rfl, _, rfl, y, dx3, _, rfl, h1, look_no n l3 td3 dg3 (by decide +kernel) (by decide +kernel) (by decide +kernel) (by decide +kernel), _, rfl, _, rfl, y, n, ps, z, u, rfl, hy3, fun H4 s4 => ⟨_, rfl, ?_⟩⟩
        rw [tk2, List.filter_append]
        cases hb : tied ps z u with
        | false =>
          refine iteF ⟨k3.trans (Same.kp s4 D2), ?_⟩
          rw [List.filter_cons, if_neg (by rw [hb]; exact Bool.false_ne_true), List.filter_nil, List.append_nil]
          exact eD2.same s4
        | true =>
          refine iteT ⟨_, rfl, _, s4 _ _ eD2, ?_, (k3.trans (Same.kp s4 D2)).trans (Kp.put _ _ _), ?_⟩
          · rw [List.length_map]
            exact small1000 (by omega)
          · show upd _ _ _ _ = _
            rw [upd_same, List.filter_cons, if_pos hb, List.filter_nil, List.map_append]
            rfl
      · rintro H3 ⟨k3, eD2⟩
        rw [List.length_map, List.take_length] at eD2
        have s3 : Same H2 H3 := fun c o e => k3 c o (ne_of_none e nD2) e
        have la := oA.length
        rw [List.length_map, List.length_take] at la
        refine ⟨_, s3 _ _ eD, ?_, (k2.trans (Same.kp s3 D)).trans (Kp.put _ _ _), as ++ [D2], ?_, ?_, fun a ha => ?_⟩
        · rw [List.length_map]
          exact small1000 (by omega)
        · rw [upd_same, List.map_append]
          rfl
        · rw [tk, List.map_append]
          refine OrdsAs.snoc ((oA.same s3).keep fun a ha o e => ?_) ?_
          · rw [upd_ne (neD a ha)]
            exact e
          · show upd _ _ _ _ = _
            rw [upd_ne (Ne.symm DD2)]
            exact eD2
        · rcases List.mem_append.mp ha with h | h
          · exact neD a h
          · rw [List.mem_singleton.mp h]
            exact Ne.symm DD2
    · rintro H2 ⟨k2, as, eD, oA, neD⟩
      have s2 : Same H1 H2 := fun c o e => k2 c o (ne_of_none e nD) e
      rw [List.length_map, List.take_length] at oA
      have hp2 := hp1.same s2
      have hU : LLAt H2 D (tiedRows n ps) := ⟨as, eD, oA⟩
      -- no ins
      refine ⟨_, rfl, pl, rfl, ⟨_, hp2.sq⟩, fun D3 nD3 => ?_⟩
      have pD3 : pl ≠ D3 := ne_of_none hp2 nD3
      refine lc_list (K := K) (a := pl) (xs := (upTo n).map V.int) (fun i H3 => Kp D3 H2 H3 ∧ ∃ as, H3 D3 = some (.lst (as.map V.ref)) ∧ OrdsAs H3 as (List.replicate i []) ∧ ∀ a ∈ as, a ≠ D3) ⟨Kp.put _ _ _, [], upd_same, .nil, fun a ha => by cases ha⟩ (fun i H3 _ ⟨k, _⟩ => SqL.of (k _ _ pD3 hp2)) ?_ ?_
      · rintro i v H3 hv ⟨k3, bs, eD3, oB, neD3⟩
        have hi : i < n := by
          have := (List.getElem?_eq_some_iff.mp hv).1
          rwa [List.length_map, ul] at this
        have lb := oB.length
        rw [List.length_replicate] at lb
        refine ⟨rfl, by show 0 ≤ sizeLine; decide, fun e0 ne0 => ?_⟩
        have s4 := same_new (o := .lst []) ne0
        have De : D3 ≠ e0 := ne_of_none eD3 ne0
        refine ⟨_, s4 _ _ eD3, ?_, (k3.trans (Same.kp s4 D3)).trans (Kp.put _ _ _), bs ++ [e0], ?_, ?_, fun a ha => ?_⟩
        · rw [List.length_map]
          exact small1000 (by omega)
        · rw [upd_same, List.map_append]
          rfl
        · rw [List.replicate_succ']
          refine OrdsAs.snoc ((oB.same s4).keep fun a ha o e => ?_) ?_
          · rw [upd_ne (neD3 a ha)]
            exact e
          · show upd _ _ _ _ = _
            rw [upd_ne (Ne.symm De), upd_same]
            rfl
        · rcases List.mem_append.mp ha with h | h
          · exact neD3 a h
          · rw [List.mem_singleton.mp h]
            exact Ne.symm De
      · rintro H3 ⟨k3, bs, eD3, oB, neD3⟩
        have s3 : Same H2 H3 := fun c o e => k3 c o (ne_of_none e nD3) e
        rw [List.length_map, ul] at oB
        have hI : LLAt H3 D3 (List.replicate n []) := ⟨bs, eD3, oB⟩
        refine ⟨_, rfl, fun x dx' nx ndx hne => ?_⟩
        have sx : Same H3 (upd (upd H3 dx' (.own x)) x (.ins CS dx' [])) := (same_new ndx).trans (same_new ((upd_ne (Ne.symm hne)).trans nx))
        refine ⟨x, dx', D3, D, rfl, upd_same, fun H' k hy' => ⟨rfl, ?_⟩⟩
        have s' : Same H3 H' := fun c o e => by
          have cx : c ≠ x := fun z => by
            rw [z, nx] at e
            cases e
          exact k c o cx (sx c o e)
        exact q H' x (((s1.trans s2).trans s3).trans s') ⟨dx', D3, D, hy', hI.same s', (hU.same s3).same s'⟩
end
end DR

set_option Elab.async false
set_option linter.all false
set_option maxRecDepth 100000
set_option maxHeartbeats 4000000
namespace DR
open PySem PySem.Spec PyProof.Rows L2
theorem LeafAt.same {G H H' : Hp} {t : Addr} {n : Nat} {I U : List (List Int)} (h : LeafAt G H t n I U) (s : Same H H') : LeafAt G H' t n I U := by
  rcases h with ⟨p, h0, h1, h2, h3⟩ | ⟨p, h0, h1, h2, h3⟩ | ⟨p, r, w, h0, h1, h2, h3, h4⟩
  · exact .inl ⟨p, h0, h1, s _ _ h2, h3⟩
  · exact .inr (.inl ⟨p, h0, h1, s _ _ h2, h3⟩)
  · exact .inr (.inr ⟨p, r, w, h0, h1, s _ _ h2, h3.same s, h4⟩)
/-- a tree of cases -/
def NodeAt (G : Hp) (n : Nat) : Nat → Hp → Addr → List (List Int) → List (List Int) → Prop
  | 0, H, t, I, U => LeafAt G H t n I U
  | k + 1, H, t, I, U => LeafAt G H t n I U ∨ ∃ (r t1 t2 : Addr) (a b : Int), H t = some (.tup [.str "tie", .ref r, .ref t1, .ref t2]) ∧ TupAt H r [a, b] ∧ 0 ≤ a ∧ a < b ∧ b < n ∧ b ∈ row U a ∧ NodeAt G n k H t1 (inOf I a b) (outOf U a b) ∧ NodeAt G n k H t2 I (outOf U a b)
theorem NodeAt.same {G : Hp} {n : Nat} : ∀ {k : Nat} {H H' : Hp} {t : Addr} {I U : List (List Int)}, NodeAt G n k H t I U → Same H H' → NodeAt G n k H' t I U
  | 0, _, _, _, _, _, h, s => LeafAt.same h s
  | k + 1, _, _, _, _, _, h, s => by
    rcases h with h | ⟨r, t1, t2, a, b, h1, h2, h3, h4, h5, h6, h7, h8⟩
    · exact .inl (h.same s)
    · exact .inr ⟨r, t1, t2, a, b, s _ _ h1, TupAt.same h2 s, h3, h4, h5, h6, h7.same s, h8.same s⟩
theorem NodeAt.tup {G : Hp} {n : Nat} : ∀ {k : Nat} {H : Hp} {t : Addr} {I U : List (List Int)}, NodeAt G n k H t I U → ∃ xs, H t = some (.tup xs) := by
  have leaf : ∀ {H : Hp} {t : Addr} {I U : List (List Int)}, LeafAt G H t n I U → ∃ xs, H t = some (.tup xs) := fun h => by
    rcases h with ⟨p, _, _, h, _⟩ | ⟨p, _, _, h, _⟩ | ⟨p, r, w, _, _, h, _⟩ <;> exact ⟨_, h⟩
  intro k H t I U h
  cases k with
  | zero => exact leaf h
  | succ k =>
    rcases h with h | ⟨r, t1, t2, a, b, h, _⟩
    · exact leaf h
    · exact ⟨_, h⟩
theorem NodeAt.leaf {G : Hp} {n : Nat} {k : Nat} {H : Hp} {t : Addr} {I U : List (List Int)} (h : LeafAt G H t n I U) : NodeAt G n k H t I U := by
  cases k with
  | zero => exact h
  | succ k => exact .inl h
theorem LeafAt.base {G G' H : Hp} {t : Addr} {n : Nat} {I U : List (List Int)} (h : LeafAt G' H t n I U) (s : Same G G') : LeafAt G H t n I U := by
  rcases h with h | h | ⟨p, r, w, h0, h1, h2, h3, h4, h5, h6, h7, h8⟩
  · exact .inl h
  · exact .inr (.inl h)
  · exact .inr (.inr ⟨p, r, w, h0, h1, h2, h3, h4, h5, h6, h7, s.free h8⟩)
theorem NodeAt.base {G G' : Hp} {n : Nat} (s : Same G G') : ∀ {k : Nat} {H : Hp} {t : Addr} {I U : List (List Int)}, NodeAt G' n k H t I U → NodeAt G n k H t I U
  | 0, _, _, _, _, h => LeafAt.base h s
  | k + 1, _, _, _, _, h => by
    rcases h with h | ⟨r, t1, t2, a, b, h1, h2, h3, h4, h5, h6, h7, h8⟩
    · exact .inl (h.base s)
    · exact .inr ⟨r, t1, t2, a, b, h1, h2, h3, h4, h5, h6, NodeAt.base s h7, NodeAt.base s h8⟩
theorem row_tied {n : Nat} {ps : List (Int × Int)} {p : Int} (p0 : 0 ≤ p) (p1 : p < n) : row (tiedRows n ps) p = rowT n ps p := by
  unfold row tiedRows upTo
  rw [List.getD_eq_getElem?_getD, List.map_map, List.getElem?_map, List.getElem?_range (by omega)]
  show rowT n ps ((p.toNat : Nat) : Int) = _
  congr 1
  omega
theorem row_none {n : Nat} (p : Int) : row (List.replicate n []) p = [] := by
  unfold row
  rw [List.getD_eq_getElem?_getD, List.getElem?_replicate]
  split <;> rfl
theorem tied_swap (ps : List (Int × Int)) (a b : Int) : tied ps a b = tied ps b a := by
  unfold tied
  rw [Bool.or_comm]
theorem Ties.tied_ne {n : Nat} {ps : List (Int × Int)} (ti : Ties n ps) {a b : Int} (h : tied ps a b = true) : b ≠ a := fun e => by
  subst e
  unfold tied at h
  rw [Bool.or_self, decide_eq_true_iff] at h
  have := ti.rng _ h
  simp at this
theorem said0 {n : Nat} {ps : List (Int × Int)} (ti : Ties n ps) : SaidOk n (List.replicate n []) (tiedRows n ps) := by
  refine ⟨by simp, by unfold tiedRows; rw [List.length_map, upTo_len], fun p j _ _ h => ?_, fun p j p0 p1 h => ?_, fun p j _ _ h => ?_, fun p j p0 p1 h => ?_, fun p _ _ => ?_, fun p p0 p1 => ?_, fun p j p0 p1 _ z => ?_⟩
  · rw [row_none] at h
    cases h
  · rw [row_tied p0 p1] at h
    obtain ⟨h1, h2⟩ := List.mem_filter.mp h
    have := upTo_mem.mp h1
    exact ⟨this.1, this.2, ti.tied_ne h2⟩
  · rw [row_none] at h
    cases h
  · rw [row_tied p0 p1] at h
    obtain ⟨h1, h2⟩ := List.mem_filter.mp h
    have := upTo_mem.mp h1
    rw [row_tied this.1 this.2]
    exact List.mem_filter.mpr ⟨upTo_mem.mpr ⟨p0, p1⟩, by rw [tied_swap]; exact h2⟩
  · rw [row_none]
    exact .nil
  · rw [row_tied p0 p1]
    exact (upTo_nodup n).filter _
  · rw [row_none] at z
    cases z
theorem tot0 {n : Nat} (n12 : n ≤ 12) (ps : List (Int × Int)) : totU n (tiedRows n ps) ≤ 144 := by
  have le := sum_le (f := fun i : Nat => (row (tiedRows n ps) (i : Int)).length) (g := fun _ => 12) (l := List.range n) fun i hi => by
    have hi := List.mem_range.mp hi
    rw [row_tied (by omega) (by omega)]
    have := List.length_filter_le (tied ps (i : Int)) (upTo n)
    rw [upTo_len] at this
    unfold rowT
    omega
  have e : ((List.range n).map fun _ => 12).sum = n * 12 := by
    have key : ∀ k : Nat, ((List.range k).map fun _ => 12).sum = k * 12 := fun k => by
      induction k with
      | zero => rfl
      | succ k ih =>
        rw [List.range_succ, List.map_append, List.sum_append, ih]
        simp
        omega
    exact key n
  unfold totU
  omega
section
variable {P : Program} {w : World} {K : PySem.W.Frag} {mg : Str → Option Value} {base : Heap} {C CS : Addr}
/-! #### node_of -/
def spNode (CS : Addr) (k : Nat) : Sp := fun vs H Q _ => ∃ (s : Addr) (n : Nat) (I U : List (List Int)), vs = [.ref s] ∧ SaidAt CS H s I U ∧ SaidOk n I U ∧ 1 ≤ n ∧ n ≤ 12 ∧ totU n U ≤ 2 * k ∧
  ∀ H' t, Same H H' → NodeAt H n k H' t I U → Q (.ref t) H'
abbrev nNode : List Str := ["said", "leaf", "tie", "rising"]
theorem scNode : FnScope nNode ["said"] (defScope s_node_of) := ⟨rfl, rfl, rfl, by decide +kernel, rfl, by decide +kernel, by decide +kernel⟩
theorem no_unsaid {n : Nat} {I U : List (List Int)} (ok : SaidOk n I U) (n1 : 1 ≤ n) (h : totU n U ≤ 0) : ¬ NoLeaf n I U := fun nl => by
  obtain ⟨p, p0, p1, ne⟩ := unsaid_left ok n1 nl
  have pos : 0 < (row U p).length := List.length_pos_iff.mpr ne
  have key : ∀ l : List Nat, p.toNat ∈ l → (row U p).length ≤ (l.map fun i : Nat => (row U (i : Int)).length).sum := fun l => by
    induction l with
    | nil =>
      intro h
      cases h
    | cons a l ih =>
      intro h
      rw [List.map_cons, List.sum_cons]
      rcases List.mem_cons.mp h with e | e
      · rw [← e, show ((p.toNat : Nat) : Int) = p by omega]
        omega
      · have := ih e
        omega
  have := key (List.range n) (List.mem_range.mpr (by omega))
  unfold totU at h
  omega
theorem node0 (D : IsDef K mg "node_of" s_node_of) (LF : Has P w K mg base 2 "leaf_of" ["said"] (spLeaf CS)) : Has P w K mg base 5 "node_of" ["said"] (spNode CS 0) := by
  refine has_of D scNode (fun _ _ _ _ _ _ us hl => match us, hl with | [_], _ => rfl) (fun vs H Q E h => ?_) (fun f cdv A outer s H vs Q E hr h => ?_)
  · obtain ⟨s, n, I, U, rfl, _⟩ := h
    rfl
  · obtain ⟨sa, n, I, U, rfl, hs, ok, n1, n12, tot, q⟩ := h
    refine ⟨_, pss_cons (ps_set (i := 1) scNode.nd rfl (.inl rfl) (pe_has LF hr (by decide) (by rfl) (pa_cons (pv 0) pa_nil)))
      (pss_cons (ps_if (pt_cmp (pc_notN (pv 1)) rfl) (pss_one (ps_ret (pv 1))) pss_nil) pss_never), ?_⟩
    refine ⟨_, rfl, sa, n, I, U, rfl, hs, ok, n12, fun H1 s1 => ⟨fun nl => absurd nl (no_unsaid ok n1 tot), fun t lf => ?_⟩⟩
    refine ⟨_, rfl, _, rfl, iteT ⟨_, rfl, q H1 t s1 lf⟩⟩
theorem node1 {k : Nat} (D : IsDef K mg "node_of" s_node_of) (B : Blt mg) (LF : Has P w K mg base 2 "leaf_of" ["said"] (spLeaf CS)) (BT : Has P w K mg base 2 "barred_tie" ["said"] (spBarred CS)) (TT : Has P w K mg base 3 "tightest_tie" ["said"] (spTight CS))
    (SO : Has P w K mg base 3 "said_out" ["said", "tie"] (spSOut CS)) (SN : Has P w K mg base 4 "said_in" ["said", "tie"] (spSIn CS)) (ND : Has P w K mg base (k + 5) "node_of" ["said"] (spNode CS k)) : Has P w K mg base (k + 1 + 5) "node_of" ["said"] (spNode CS (k + 1)) := by
  refine has_of D scNode (fun _ _ _ _ _ _ us hl => match us, hl with | [_], _ => rfl) (fun vs H Q E h => ?_) (fun f cdv A outer s H vs Q E hr h => ?_)
  · obtain ⟨s, n, I, U, rfl, _⟩ := h
    rfl
  · obtain ⟨sa, n, I, U, rfl, hs, ok, n1, n12, tot, q⟩ := h
    refine ⟨_, pss_cons (ps_set (i := 1) scNode.nd rfl (.inl rfl) (pe_has LF hr (by omega) (by rfl) (pa_cons (pv 0) pa_nil)))
      (pss_cons (ps_if (pt_cmp (pc_notN (pv 1)) rfl) (pss_one (ps_ret (pv 1))) pss_nil)
      (C8.pss_cut (ps_set (i := 2) scNode.nd rfl (.inl rfl) (pe_orT (pe_has BT hr (by omega) (by rfl) (pa_cons (pv 0) pa_nil)) (pe_one (pe_has TT hr (by omega) (by rfl) (pa_cons (pv 0) pa_nil)))))
      (pss_cons (ps_set (i := 3) scNode.nd rfl (.inl rfl) (pe_tup (pa_cons (pe_callB (cr_minT rfl) (by rfl) B.min (by decide +kernel) (pa_cons (pv 2) pa_nil)) (pa_cons (pe_callB (cr_maxT rfl) (by rfl) B.max (by decide +kernel) (pa_cons (pv 2) pa_nil)) pa_nil))))
      (pss_one (ps_ret (pe_tup (pa_cons pe_str (pa_cons (pv 3) (pa_cons (pe_has ND hr (by omega) (by rfl) (pa_cons (pe_has SN hr (by omega) (by rfl) (pa_cons (pv 0) (pa_cons (pv 3) pa_nil))) pa_nil)) (pa_cons (pe_has ND hr (by omega) (by rfl) (pa_cons (pe_has SO hr (by omega) (by rfl) (pa_cons (pv 0) (pa_cons (pv 3) pa_nil))) pa_nil)) pa_nil)))))))))), ?_⟩
    refine ⟨_, rfl, sa, n, I, U, rfl, hs, ok, n12, fun H1 s1 => ⟨fun nl => ?_, fun t lf => ?_⟩⟩
    · obtain ⟨p0, p00, p01, pne⟩ := unsaid_left ok n1 nl
      refine ⟨_, rfl, _, rfl, iteF ?_⟩
      refine ⟨fun σ H2 => ∃ (t : Addr) (p x : Int), σ = [some (.ref sa), some .non, some (.ref t), none] ∧ Same H H2 ∧ 0 ≤ p ∧ p < n ∧ x ∈ row U p ∧ TupAt H2 t [p, x], ?_, ?_⟩
      · refine ⟨_, rfl, sa, n, I, U, rfl, hs.same s1, ok, n12, fun H2 s2 => ⟨?_, fun t p x h0 h1 hx ht => ?_⟩⟩
        · refine ⟨false, rfl, iteF ?_⟩
          refine ⟨_, rfl, sa, n, I, U, rfl, (hs.same s1).same s2, ok, n12, ⟨p0, p00, p01, pne⟩, fun H3 t p x s3 h0 h1 hx ht => ?_⟩
          exact ⟨t, p, x, rfl, (s1.trans s2).trans s3, h0, h1, hx, ht⟩
        · refine ⟨true, .inr (.inl ⟨_, SqT.of ht, rfl⟩), iteT ?_⟩
          exact ⟨t, p, x, rfl, s1.trans s2, h0, h1, hx, ht⟩
      · rintro σ H2 ⟨t, p, x, rfl, s2, h0, h1, hx, ht⟩
        have ht' : H2 t = some (.tup [.int p, .int x]) := ht
        obtain ⟨x0, x1, xp⟩ := ok.ru p x h0 h1 hx
        refine ⟨_, rfl, t, p, x, rfl, ht', _, rfl, t, p, x, rfl, ht', by show 2 ≤ sizeLine; decide, fun r nr => ?_⟩
        have key : ∃ a b : Int, (if x < p then x else p) = a ∧ (if x > p then x else p) = b ∧ 0 ≤ a ∧ a < b ∧ b < n ∧ b ∈ row U a := by
          by_cases c : x < p
          · exact ⟨x, p, if_pos c, if_neg (by omega), x0, c, h1, ok.su p x h0 h1 hx⟩
          · exact ⟨p, x, if_neg c, if_pos (by omega), h0, by omega, x1, hx⟩
        obtain ⟨a, b, ea, eb, a0, ab, bn, hb⟩ := key
        rw [ea, eb]
        have s3 := same_new (o := .tup [.int a, .int b]) nr
        have hr3 : TupAt (upd H2 r (.tup [.int a, .int b])) r [a, b] := upd_same
        generalize upd H2 r (.tup [.int a, .int b]) = H3 at s3 hr3
        have s23 := s2.trans s3
        have a1 : a < n := by omega
        have less := tot_out ok a0 a1 hb
        refine ⟨_, rfl, _, rfl, _, rfl, sa, r, n, I, U, a, b, rfl, hs.same s23, ok, n12, hr3, a0, a1, hb, fun H4 c1 s4 hc1 => ?_⟩
        refine ⟨c1, n, _, _, rfl, hc1, ok.inn a0 a1 hb, n1, n12, by omega, fun H5 t1 s5 ht1 => ?_⟩
        have s25 := (s23.trans s4).trans s5
        have hr5 := TupAt.same (TupAt.same hr3 s4) s5
        refine ⟨_, rfl, _, rfl, sa, r, n, I, U, a, b, rfl, hs.same s25, ok, n12, hr5, a0, a1, hb, fun H6 c2 s6 hc2 => ?_⟩
        refine ⟨c2, n, _, _, rfl, hc2, ok.out a0 a1 hb, n1, n12, by omega, fun H7 t2 s7 ht2 => ?_⟩
        refine ⟨by show 4 ≤ sizeLine; decide, fun t nt => ?_⟩
        have s8 := same_new (o := .tup [.str "tie", .ref r, .ref t1, .ref t2]) nt
        exact q _ t (((s25.trans s6).trans s7).trans s8) (.inr ⟨r, t1, t2, a, b, upd_same, TupAt.same (TupAt.same (TupAt.same hr5 s6) s7) s8, a0, ab, bn, hb, (((ht1.same s6).same s7).same s8).base (s23.trans s4), (ht2.same s8).base (s25.trans s6)⟩)
    · exact ⟨_, rfl, _, rfl, iteT ⟨_, rfl, q H1 t s1 (NodeAt.leaf lf)⟩⟩
theorem node_all (D : IsDef K mg "node_of" s_node_of) (B : Blt mg) (LF : Has P w K mg base 2 "leaf_of" ["said"] (spLeaf CS)) (BT : Has P w K mg base 2 "barred_tie" ["said"] (spBarred CS)) (TT : Has P w K mg base 3 "tightest_tie" ["said"] (spTight CS))
    (SO : Has P w K mg base 3 "said_out" ["said", "tie"] (spSOut CS)) (SN : Has P w K mg base 4 "said_in" ["said", "tie"] (spSIn CS)) : ∀ k : Nat, Has P w K mg base (k + 5) "node_of" ["said"] (spNode CS k)
  | 0 => node0 D LF
  | k + 1 => node1 D B LF BT TT SO SN (node_all D B LF BT TT SO SN k)
/-! #### tree_of -/
def spTree (C CS : Addr) : Sp := fun vs H Q _ => ∃ (y : Addr) (n : Nat) (ps : List (Int × Int)), vs = [.ref y] ∧ YardAt C H y n ps ∧ Ties n ps ∧ 1 ≤ n ∧ n ≤ 12 ∧
  ∀ H' t, Same H H' → NodeAt H n 72 H' t (List.replicate n []) (tiedRows n ps) → Q (.ref t) H'
abbrev nTree : List Str := ["yard"]
theorem scTree : FnScope nTree ["yard"] (defScope s_tree_of) := ⟨rfl, rfl, rfl, by decide +kernel, rfl, by decide +kernel, by decide +kernel⟩
theorem has_tree (D : IsDef K mg "tree_of" s_tree_of) (NS : Has P w K mg base 3 "nothing_said" ["yard"] (spNothing C CS)) (ND : Has P w K mg base (72 + 5) "node_of" ["said"] (spNode CS 72)) : Has P w K mg base 78 "tree_of" ["yard"] (spTree C CS) := by
  refine has_of D scTree (fun _ _ _ _ _ _ us hl => match us, hl with | [_], _ => rfl) (fun vs H Q E h => ?_) (fun f cdv A outer s H vs Q E hr h => ?_)
  · obtain ⟨y, n, ps, rfl, _⟩ := h
    rfl
  · obtain ⟨y, n, ps, rfl, hy, ti, n1, n12, q⟩ := h
    refine ⟨_, pss_one (ps_ret (pe_has ND hr (by decide) (by rfl) (pa_cons (pe_has NS hr (by decide) (by rfl) (pa_cons (pv 0) pa_nil)) pa_nil))), ?_⟩
    refine ⟨_, rfl, y, n, ps, rfl, hy, n1, by omega, fun H1 r s1 hr1 => ?_⟩
    exact ⟨r, n, _, _, rfl, hr1, said0 ti, n1, n12, tot0 n12 ps, fun H2 t s2 ht => q H2 t (s1.trans s2) (ht.base s1)⟩
end
end DR

set_option Elab.async false
set_option linter.all false
set_option maxRecDepth 100000
set_option maxHeartbeats 4000000
namespace DR
open PySem PySem.Spec PyProof.Rows L2
def goesHome (ps : List (Int × Int)) (p : Int) (ls : List Int) (x : Int) : Bool := tied ps p x && decide (waysOf ps (ls.length - 1) x (ls.filter fun y => decide (y ≠ x)) ≠ 0)
def leastOn (ps : List (Int × Int)) (p : Int) (ls : List Int) : Option Int := ls.find? (goesHome ps p ls)
def leastGo (ps : List (Int × Int)) : Nat → List Int → List Int → Option (List Int)
  | 0, o, _ => some o
  | k + 1, o, ls => match leastOn ps (lastOf o) ls with
    | none => none
    | some x => leastGo ps k (o ++ [x]) (ls.filter fun y => decide (y ≠ x))
def leastOf (n : Nat) (ps : List (Int × Int)) : Option (List Int) := leastGo ps (n - 1) [0] ((upTo n).drop 1)
def optI : Option Int → V
  | none => .non
  | some x => .int x
section
variable {P : Program} {w : World} {K : PySem.W.Frag} {mg : Str → Option Value} {base : Heap} {C : Addr}
def spLeastOn (P : Program) (w : World) (C : Addr) : Sp := fun vs H Q _ => ∃ (y d t : Addr) (n : Nat) (ps : List (Int × Int)) (p : Int) (ls : List Int) (m : List ((Int × List Int) × Int)), vs = [.ref y, .ref d, .int p, .ref t] ∧ YardAt C H y n ps ∧ n ≤ 12 ∧ MemoAt P w H d m ∧ MemoOk n ps m ∧ TupAt H t ls ∧ ls.Sublist (upTo n) ∧
  ∀ H' m', Kp d H H' → MemoAt P w H' d m' → MemoOk n ps m' → Q (optI (leastOn ps p ls)) H'
abbrev nLeastOn : List Str := ["yard", "known", "place", "left", "onward"]
theorem scLeastOn : FnScope nLeastOn ["yard", "known", "place", "left"] (defScope s_least_onward) := ⟨rfl, rfl, rfl, by decide +kernel, rfl, by decide +kernel, by decide +kernel⟩
theorem has_leaston (D : IsDef K mg "least_onward" s_least_onward) (T : YTxt K mg C) (TD : HasM P w K mg base C 1 "is_tied" ["self", "one", "other"] (spTied C)) (WO : Has P w K mg base 1 "without" ["places", "place"] spWithout)
    (WH : ∀ k : Nat, Has P w K mg base (k + 2) "ways_home" ["yard", "known", "place", "left"] (spWays P w C k)) : Has P w K mg base 14 "least_onward" ["yard", "known", "place", "left"] (spLeastOn P w C) := by
  refine has_of D scLeastOn (fun _ _ _ _ _ _ us hl => match us, hl with | [_, _, _, _], _ => rfl) (fun vs H Q E h => ?_) (fun f cdv A outer s H vs Q E hr h => ?_)
  · obtain ⟨y, d, t, n, ps, p, ls, m, rfl, _⟩ := h
    rfl
  · obtain ⟨y, d, t, n, ps, p, ls, m, rfl, hy, n12, hm, mo, ht, hsub, q⟩ := h
    have l12 : ls.length ≤ 12 := by
      have := hsub.length_le
      rw [upTo_len] at this
      omega
    have W := (WH (ls.length - 1)).up (show ls.length - 1 + 2 ≤ 13 by omega)
    refine ⟨_, pss_cons (ps_for PassesOwn.never rfl (pi_tup (pv 3)) (pg_name (i := 4) scLeastOn.nd rfl (.inl rfl))
        (pss_one (ps_if (PW.pt (pw_and (pt_val (pe_hasM (pv 0) T.cl TD hr (by decide) (pa_cons (pv 2) (pa_cons (pv 4) pa_nil)))) (pw_and1 (pt_truth (pe_has W hr (by decide) (by rfl) (pa_cons (pv 0) (pa_cons (pv 1) (pa_cons (pv 4) (pa_cons (pe_has WO hr (by decide) (by rfl) (pa_cons (pv 3) (pa_cons (pv 4) pa_nil))) pa_nil))))) (by intro _; rfl)))))
          (pss_one (ps_ret (pv 4))) pss_nil)))
      (pss_one (ps_ret pe_non)), ?_⟩
    obtain ⟨L0, ed0, _⟩ := id hm
    have td : t ≠ d := plain_ne ed0 ht trivial
    have nd : ls.Nodup := hsub.nodup (upTo_nodup n)
    refine ⟨_, rfl, t, rfl, ⟨_, SqT.of ht⟩, for_tup (K := K) (a := t) (xs := ls.map V.int) (fun i σ H1 => ∃ (x4 : Option V) (m1 : List ((Int × List Int) × Int)), σ = [some (.ref y), some (.ref d), some (.int p), some (.ref t), x4] ∧ Kp d H H1 ∧ MemoAt P w H1 d m1 ∧ MemoOk n ps m1 ∧ leastOn ps p ls = (ls.drop i).find? (goesHome ps p ls))
      ⟨none, m, rfl, Kp.refl _ _, hm, mo, rfl⟩ (fun i σ H1 _ ⟨_, _, _, kp, _⟩ => SqT.of (kp _ _ td ht)) ?_ ?_⟩
    · rintro i v σ H1 hv ⟨x4, m1, rfl, kp, hm1, mo1, eq⟩
      obtain ⟨z, rfl⟩ := ints_at hv
      have hz : ls[i]? = some z := by
        rw [List.getElem?_map] at hv
        cases e : ls[i]? with
        | none =>
          rw [e] at hv
          cases hv
        | some u =>
          rw [e] at hv
          injection hv with hv
          injection hv with hv
          rw [hv]
      obtain ⟨hi, hzi⟩ := List.getElem?_eq_some_iff.mp hz
      have hzm := List.mem_of_getElem? hz
      have dj : ls.drop i = z :: ls.drop (i + 1) := by rw [List.drop_eq_getElem_cons hi, hzi]
      rw [dj, List.find?_cons] at eq
      have kpP : ∀ b o, H b = some o → plainO o → H1 b = some o := fun b o e po => kp b o (plain_ne ed0 e po) e
      have hy1 := hy.keepP kpP
      have ht1 : TupAt H1 t ls := kpP _ _ ht trivial
      obtain ⟨dx, l, tdd, dg, g1, g2, g3, g4⟩ := id hy1
      refine ⟨_, rfl, y, dx, _, rfl, g1, look_no n l tdd dg (by decide +kernel) (by decide +kernel) (by decide +kernel) (by decide +kernel), _, rfl, _, rfl, y, n, ps, p, z, rfl, hy1, fun H2 s2 => ⟨_, rfl, ?_⟩⟩
      have kp2 := kp.trans (Same.kp s2 d)
      cases hb : tied ps p z with
      | false =>
        have e : goesHome ps p ls z = false := by
          unfold goesHome
          rw [hb, Bool.false_and]
        rw [e] at eq
        exact iteF (iteF ⟨_, m1, rfl, kp2, hm1.same s2, mo1, eq⟩)
      | true =>
        refine iteT ?_
        refine ⟨_, rfl, _, rfl, _, rfl, _, rfl, _, rfl, t, ls, z, rfl, TupAt.same ht1 s2, by omega, fun H3 r s3 nr hr3 => ?_⟩
        have s23 := s2.trans s3
        have hlen : (ls.filter fun y => decide (y ≠ z)).length = ls.length - 1 := by
          have e2 : ls.filter (fun y => decide (y ≠ z)) = ls.erase z := by
            rw [nd.erase_eq_filter]
            refine List.filter_congr fun y _ => ?_
            by_cases c : y = z <;> simp [c]
          rw [e2, List.length_erase_of_mem hzm]
        refine ⟨y, d, r, n, ps, z, _, m1, rfl, hy1.same s23, n12, hm1.same s23, mo1, hr3, hlen, (List.filter_sublist).trans hsub, hsub.subset hzm, fun H4 m4 kp4 hm4 mo4 _ => ⟨_, rfl, ?_⟩⟩
        have kp5 := kp.trans ((Same.kp s23 d).trans kp4)
        by_cases big : waysOf ps (ls.length - 1) z (ls.filter fun y => decide (y ≠ z)) = 0
        · have e : goesHome ps p ls z = false := by
            unfold goesHome
            rw [decide_eq_false (fun h => h big), Bool.and_false]
          rw [e] at eq
          rw [big]
          exact iteF ⟨_, m4, rfl, kp5, hm4, mo4, eq⟩
        · have e : goesHome ps p ls z = true := by
            unfold goesHome
            rw [hb, decide_eq_true big]
            rfl
          rw [e] at eq
          have eb : (((waysOf ps (ls.length - 1) z (ls.filter fun y => decide (y ≠ z)) : Nat) : Int) != 0) = true := by
            rw [bne_iff_ne]
            omega
          rw [eb]
          refine iteT ⟨_, rfl, ?_⟩
          have q' := q H4 m4 kp5 hm4 mo4
          rw [eq] at q'
          exact q'
    · rintro σ H1 ⟨x4, m1, rfl, kp, hm1, mo1, eq⟩
      have q' := q H1 m1 kp hm1 mo1
      rw [eq, List.length_map, List.drop_length] at q'
      exact q'
/-! #### least_round -/
theorem leastOn_mem {ps : List (Int × Int)} {p x : Int} {ls : List Int} (h : leastOn ps p ls = some x) : x ∈ ls := List.mem_of_find?_eq_some h
def spLeastR (C : Addr) : Sp := fun vs H Q _ => ∃ (y : Addr) (n : Nat) (ps : List (Int × Int)), vs = [.ref y] ∧ YardAt C H y n ps ∧ 1 ≤ n ∧ n ≤ 12 ∧
  ∀ H', Same H H' → (leastOf n ps = none → Q .non H') ∧ (∀ r os, leastOf n ps = some os → H r = none → OrdAt H' r os → Q (.ref r) H')
abbrev nLeastR : List Str := ["yard", "known", "order", "left", "onward"]
theorem scLeastR : FnScope nLeastR ["yard"] (defScope s_least_round) := ⟨rfl, rfl, rfl, by decide +kernel, rfl, by decide +kernel, by decide +kernel⟩
theorem has_leastr (D : IsDef K mg "least_round" s_least_round) (B : Blt mg) (T : YTxt K mg C) (M : HasM P w K mg base C 1 "many" ["self"] (spMany C)) (WO : Has P w K mg base 1 "without" ["places", "place"] spWithout)
    (LO : Has P w K mg base 14 "least_onward" ["yard", "known", "place", "left"] (spLeastOn P w C)) : Has P w K mg base 15 "least_round" ["yard"] (spLeastR C) := by
  refine has_of D scLeastR (fun _ _ _ _ _ _ us hl => match us, hl with | [_], _ => rfl) (fun vs H Q E h => ?_) (fun f cdv A outer s H vs Q E hr h => ?_)
  · obtain ⟨y, n, ps, rfl, _⟩ := h
    rfl
  · obtain ⟨y, n, ps, rfl, hy, n1, n12, q⟩ := h
    refine ⟨_, pss_cons (ps_set (i := 1) scLeastR.nd rfl (.inl rfl) pe_dnewN)
      (pss_cons (ps_set (i := 2) scLeastR.nd rfl (.inl rfl) (pe_lst (pa_cons pe_int pa_nil)))
      (pss_cons (ps_set (i := 3) scLeastR.nd rfl (.inl rfl) (pe_tupRg rfl (by rfl) B.tuple (prg_2 (by rfl) B.range pe_int (pe_hasM0 (pv 0) T.cl M hr (by decide)))))
      (pss_cons (ps_while PassesOwn.never (pt_truth (pv 3) (by intro _; rfl))
        (pss_cons (ps_set (i := 4) scLeastR.nd rfl (.inl rfl) (pe_has LO hr (by decide) (by rfl) (pa_cons (pv 0) (pa_cons (pv 1) (pa_cons (pe_ix (r := rIxL K) ix_list (pv 2) (pe_un un_neg pe_int) (fun _ _ => rfl)) (pa_cons (pv 3) pa_nil))))))
        (pss_cons (ps_if (pt_cmp (pc_isN (pv 4)) rfl) (pss_one (ps_ret pe_non)) pss_nil)
        (pss_cons (ps_expr (pe_bm PySem.F.plainAttrs_list PySem.F.slot_list_append PySem.F.type_list_append mt_append (pv 2) (pa_cons (pv 4) pa_nil)))
        (pss_one (ps_set (i := 3) scLeastR.nd rfl (.inl rfl) (pe_has WO hr (by decide) (by rfl) (pa_cons (pv 3) (pa_cons (pv 4) pa_nil)))))))))
      (pss_one (ps_ret (pv 2)))))), ?_⟩
    intro d nd
    have sd := same_new (o := NestO P w d []) nd
    refine ⟨by show 1 ≤ sizeLine; decide, fun o0 no => ?_⟩
    have so := same_new (o := .lst [.int 0]) no
    have no0 : H o0 = none := sd.free no
    have hy1 := (hy.same sd).same so
    obtain ⟨dx, l, tdd, dg, h1, h2, h3, h4⟩ := id hy1
    refine ⟨_, rfl, y, dx, _, rfl, h1, look_no n l tdd dg (by decide +kernel) (by decide +kernel) (by decide +kernel) (by decide +kernel), y, n, ps, rfl, hy1, 1, (n : Int), rfl, rfl, RgOk.of_le (by omega) (by omega) (by omega) (by omega), fun t nt => ?_⟩
    rw [rgV_rest n1]
    have st := same_new (o := .tup (((upTo n).drop 1).map V.int)) nt
    have ed : upd H d (NestO P w d []) d = some (NestO P w d []) := upd_same
    have do_ : d ≠ o0 := ne_of_none ed no
    have zin : (0 : Int) ∈ upTo n := by
      unfold upTo
      exact List.mem_map.mpr ⟨0, List.mem_range.mpr (by omega), rfl⟩
    refine ⟨fun m σ H2 => ∃ (os ls : List Int) (t : Addr) (mm : List ((Int × List Int) × Int)) (x4 : Option V), m = ls.length ∧ σ = [some (.ref y), some (.ref d), some (.ref o0), some (.ref t), x4] ∧ Same H H2 ∧ MemoAt P w H2 d mm ∧ MemoOk n ps mm ∧ OrdAt H2 o0 os ∧ TupAt H2 t ls ∧ ls.Sublist (upTo n) ∧ os ≠ [] ∧ os.length + ls.length ≤ n ∧
        leastOf n ps = leastGo ps ls.length os ls,
      ⟨_, [0], (upTo n).drop 1, t, [], none, rfl, rfl, sd.trans (so.trans st), (memo_new.same so).same st, MemoOk.nil n ps, st _ _ upd_same, upd_same, List.drop_sublist _ _, by simp, by rw [rest_len]; simp; omega, by rw [rest_len]; rfl⟩, ?_⟩
    rintro m σ H2 ⟨os, ls, t, mm, x4, rfl, rfl, s2, hm, mo, oo, ot, hsub, one, cnt_, eq⟩
    refine ⟨_, rfl, _, .inr (.inl ⟨_, SqT.of ot, rfl⟩), ?_⟩
    cases ls with
    | nil =>
      refine iteF ?_
      refine ⟨_, rfl, ?_⟩
      exact (q H2 s2).2 o0 os eq no0 oo
    | cons a rest =>
      refine iteT ⟨_, fun σ' H' h => h, ?_⟩
      obtain ⟨L0, edd, _⟩ := id hm
      have opos : 0 < os.length := List.length_pos_iff.mpr one
      refine ⟨_, rfl, _, rfl, _, rfl, _, rfl, o0, _, _, _, rfl, rfl, oo.sq, oo.atI_end opos, _, rfl, ?_⟩
      refine ⟨y, d, t, n, ps, _, a :: rest, mm, rfl, hy.same s2, n12, hm, mo, ot, hsub, fun H3 m3 kp3 hm3 mo3 => ?_⟩
      have s3 : Same H H3 := fun c o e => kp3 _ _ (ne_of_none e nd) (s2 _ _ e)
      have od : o0 ≠ d := plain_ne edd oo trivial
      have td : t ≠ d := plain_ne edd ot trivial
      have oo3 : OrdAt H3 o0 os := kp3 _ _ od oo
      have ot3 : TupAt H3 t (a :: rest) := kp3 _ _ td ot
      have estep : leastGo ps (a :: rest).length os (a :: rest) = match leastOn ps (lastOf os) (a :: rest) with
        | none => none
        | some x => leastGo ps rest.length (os ++ [x]) ((a :: rest).filter fun y => decide (y ≠ x)) := rfl
      rw [estep] at eq
      show _
      cases hL : leastOn ps (lastOf os) (a :: rest) with
      | none =>
        rw [hL] at eq
        have hL' : leastOn ps (os.getD (os.length - 1) 0) (a :: rest) = none := hL
        rw [hL']
        exact ⟨_, rfl, _, rfl, iteT ((q H3 s3).1 eq)⟩
      | some x =>
        rw [hL] at eq
        have hL' : leastOn ps (os.getD (os.length - 1) 0) (a :: rest) = some x := hL
        rw [hL']
        refine ⟨_, rfl, _, rfl, iteF ?_⟩
        have xm := leastOn_mem hL
        have ndl : (a :: rest).Nodup := hsub.nodup (upTo_nodup n)
        have hlen : ((a :: rest).filter fun y => decide (y ≠ x)).length = rest.length := by
          have e2 : (a :: rest).filter (fun y => decide (y ≠ x)) = (a :: rest).erase x := by
            rw [ndl.erase_eq_filter]
            refine List.filter_congr fun y _ => ?_
            by_cases c : y = x <;> simp [c]
          rw [e2, List.length_erase_of_mem xm]
          simp
        have cn : os.length + (rest.length + 1) ≤ n := by simpa using cnt_
        refine ⟨_, rfl, .inl ⟨rfl, _, oo3.sq⟩, _, rfl, o0, _, _, rfl, rfl, oo3, ?_, ?_⟩
        · rw [List.length_map]
          exact small1000 (by omega)
        obtain ⟨L3, ed3, _⟩ := id hm3
        have dO : d ≠ o0 := Ne.symm od
        have tO : t ≠ o0 := ne_of ot3 oo3 (by intro z; cases z)
        have s4 : Same H (upd H3 o0 (.lst (os.map V.int ++ [.int x]))) := fun c o e => by
          rw [upd_ne (ne_of_none e no0)]
          exact s3 _ _ e
        have oo4 : OrdAt (upd H3 o0 (.lst (os.map V.int ++ [.int x]))) o0 (os ++ [x]) := by
          show upd _ _ _ _ = _
          rw [upd_same, List.map_append]
          rfl
        have ot4 : TupAt (upd H3 o0 (.lst (os.map V.int ++ [.int x]))) t (a :: rest) := (upd_ne tO).trans ot3
        have hm4 : MemoAt P w (upd H3 o0 (.lst (os.map V.int ++ [.int x]))) d m3 := hm3.keep (upd_ne dO) fun b xs e => by
          rw [upd_ne (ne_of e oo3 (by intro z; cases z))]
          exact e
        change Same H (upd H3 o0 (.lst (os.map V.int ++ [optI (some x)]))) at s4
        change OrdAt (upd H3 o0 (.lst (os.map V.int ++ [optI (some x)]))) o0 (os ++ [x]) at oo4
        change TupAt (upd H3 o0 (.lst (os.map V.int ++ [optI (some x)]))) t (a :: rest) at ot4
        change MemoAt P w (upd H3 o0 (.lst (os.map V.int ++ [optI (some x)]))) d m3 at hm4
        generalize upd H3 o0 (.lst (os.map V.int ++ [optI (some x)])) = H4 at s4 oo4 ot4 hm4
        refine ⟨_, rfl, _, rfl, t, a :: rest, x, rfl, ot4, by simp; omega, fun H5 r s5 nr hr5 => ?_⟩
        refine ⟨_, ?_, os ++ [x], _, r, m3, _, rfl, rfl, s4.trans s5, hm4.same s5, mo3, oo4.same s5, hr5, (List.filter_sublist).trans hsub, by simp, ?_, ?_⟩
        · rw [hlen]
          simp
        · rw [hlen, List.length_append]
          simp
          omega
        · rw [hlen]
          exact eq
end
end DR

set_option Elab.async false
set_option linter.all false
set_option maxRecDepth 100000
set_option maxHeartbeats 4000000
/-! #### way_from tells one way alone -/
namespace DR
open PySem PySem.Spec PyProof.Rows L2
def wayGo (I : List (List Int)) : Nat → List Int → List Int
  | 0, w => w
  | k + 1, w => match onOf I w with
    | [] => w
    | x :: _ => wayGo I k (w ++ [x])
def wayF (I : List (List Int)) (p : Int) : List Int := wayGo I 13 [p]
theorem wayGo_end {I : List (List Int)} {w : List Int} (h : onOf I w = []) : ∀ k, wayGo I k w = w
  | 0 => rfl
  | k + 1 => by
    show (match onOf I w with | [] => w | x :: _ => wayGo I k (w ++ [x])) = w
    rw [h]
theorem wayGo_on {I : List (List Int)} {w : List Int} {x : Int} {r : List Int} (h : onOf I w = x :: r) (k : Nat) : wayGo I (k + 1) w = wayGo I k (w ++ [x]) := by
  show (match onOf I w with | [] => w | x :: _ => wayGo I k (w ++ [x])) = _
  rw [h]
section
variable {P : Program} {w : World} {K : PySem.W.Frag} {mg : Str → Option Value} {base : Heap} {C CS : Addr}
def spWayF : Sp := fun vs H Q _ => ∃ (li : Addr) (n : Nat) (I U : List (List Int)) (p : Int), vs = [.ref li, .int p] ∧ LLAt H li I ∧ SaidOk n I U ∧ n ≤ 12 ∧ 0 ≤ p ∧ p < n ∧
  ∀ H' r w, Same H H' → H r = none → OrdAt H' r w → IsWay n I p w → w = wayF I p → Q (.ref r) H'
theorem has_wayfromF (D : IsDef K mg "way_from" s_way_from) : Has P w K mg base 1 "way_from" ["ins", "first"] spWayF := by
  refine has_of D scWay (fun _ _ _ _ _ _ us hl => match us, hl with | [_, _], _ => rfl) (fun vs H Q E h => ?_) (fun f cdv A outer s H vs Q E hr h => ?_)
  · obtain ⟨li, n, I, U, p, rfl, _⟩ := h
    rfl
  · obtain ⟨li, n, I, U, p, rfl, hI, ok, n12, p0, p1, q⟩ := h
    refine ⟨_, pss_cons (ps_set (i := 2) scWay.nd rfl (.inr rfl) (pe_lst (pa_cons (pv 1) pa_nil)))
      (pss_cons (ps_set (i := 3) scWay.nd rfl (.inl rfl) (pe_slice sl_list (pe_ix (r := rIxL K) ix_list (pv 0) (pv 1) (fun _ _ => rfl)) po_none (po_some pe_int)))
      (pss_cons (ps_while PassesOwn.never (pt_truth (pv 3) (by intro _; rfl))
        (pss_cons (ps_expr (pe_bm PySem.F.plainAttrs_list PySem.F.slot_list_append PySem.F.type_list_append mt_append (pv 2) (pa_cons (pe_ix (r := rIxL K) ix_list (pv 3) pe_int (fun _ _ => rfl)) pa_nil)))
        (pss_one (ps_set (i := 3) scWay.nd rfl (.inl rfl) (pe_slice sl_list (pe_lc (own := [("place", 4)]) (g := gName 4) (by rfl) scWay.nd (pi_list (pe_ix (r := rIxL K) ix_list (pv 0) (pe_ix (r := rIxL K) ix_list (pv 3) pe_int (fun _ _ => rfl)) (fun _ _ => rfl))) (blkOk_by (N := nWay) (sc := defScope s_way_from) (by decide +kernel)) (fun _ _ _ _ _ => pg_name (i := 4) scWay.nd rfl (.inl rfl))
            (fun _ _ _ _ _ => pts_one (pt_cmpR (r := rIn K true) op_notIn_seq (pv 4) (pv 2) (by with_unfolding_all rfl))) (fun _ _ _ _ _ => pv 4)) po_none (po_some pe_int))))))
      (pss_one (ps_ret (pv 2))))), ?_⟩
    refine ⟨_, rfl, by show 1 ≤ sizeLine; decide, fun w0 nw => ?_⟩
    have s1 := same_new (o := .lst [.int p]) nw
    have hw1 : OrdAt (upd H w0 (.lst [.int p])) w0 [p] := upd_same
    generalize upd H w0 (.lst [.int p]) = H1 at s1 hw1
    obtain ⟨x1, r1, e1, _, t1, o1⟩ := (hI.same s1).at_ p0 (by rw [ok.li]; exact p1)
    refine ⟨_, rfl, _, rfl, li, _, _, _, rfl, rfl, SqL.of e1, t1, _, rfl, r1, _, rfl, o1.sq, fun on1 non1 => ?_⟩
    have s2 := same_new (o := .lst (cutV ((row I p).map V.int) none (some 1))) non1
    have ho1 : OrdAt (upd H1 on1 (.lst (cutV ((row I p).map V.int) none (some 1)))) on1 (onOf I [p]) := by
      show upd _ _ _ _ = _
      rw [upd_same, show (some (1 : Int)) = some ((1 : Nat) : Int) from rfl, cut_to, ← List.map_take]
      unfold onOf
      have e : (row I (lastOf [p])).filter (fun x => !decide (x ∈ [p])) = row I p := by
        show (row I p).filter _ = _
        refine List.filter_eq_self.mpr fun x hx => ?_
        have := (ok.ri p x p0 p1 hx).2.2
        simp [this]
      rw [e]
    generalize upd H1 on1 (.lst (cutV ((row I p).map V.int) none (some 1))) = H2 at s2 ho1
    refine ⟨fun m σ H3 => ∃ (wy : List Int) (on : Addr) (x4 : Option V), m = n - wy.length ∧ σ = [some (.ref li), some (.int p), some (.ref w0), some (.ref on), x4] ∧ Kp w0 H H3 ∧ OrdAt H3 w0 wy ∧ OrdAt H3 on (onOf I wy) ∧ on ≠ w0 ∧ WayTo n I p wy ∧ wayGo I (14 - wy.length) wy = wayF I p,
      ⟨_, [p], on1, none, rfl, rfl, Same.kp (s1.trans s2) w0, s2 _ _ hw1, ho1, Ne.symm (ne_of_none hw1 non1), ⟨by simp, rfl, by simp, fun x hx => by rw [List.mem_singleton.mp hx]; exact ⟨p0, p1⟩, fun i hi => absurd hi (by simp)⟩, rfl⟩, ?_⟩
    rintro m σ H3 ⟨wy, on, x4, rfl, rfl, kp, hw, hon, onw, way, wf⟩
    have s3 : Same H H3 := fun c o e => kp c o (ne_of_none e nw) e
    refine ⟨_, rfl, _, .inl ⟨_, hon.sq, rfl⟩, ?_⟩
    have wl := way.len
    cases ho : onOf I wy with
    | nil =>
      refine iteF ?_
      refine ⟨_, rfl, q H3 w0 wy s3 nw hw ⟨way.ne, way.hd, way.nd, way.rng, way.st, fun x hx => ?_⟩ (by rw [← wf, wayGo_end ho])⟩
      by_cases c : x ∈ wy
      · exact c
      · exfalso
        have hm : x ∈ (row I (lastOf wy)).filter fun x => !decide (x ∈ wy) := List.mem_filter.mpr ⟨hx, by simp [c]⟩
        unfold onOf at ho
        cases hf : (row I (lastOf wy)).filter fun x => !decide (x ∈ wy) with
        | nil =>
          rw [hf] at hm
          cases hm
        | cons z zs =>
          rw [hf] at ho
          cases ho
    | cons x rest =>
      rw [ho] at hon
      have hx : x ∈ row I (lastOf wy) ∧ x ∉ wy := by
        have : x ∈ onOf I wy := by
          rw [ho]
          simp
        obtain ⟨h1, h2⟩ := List.mem_filter.mp (List.take_subset _ _ this)
        exact ⟨h1, by simpa using h2⟩
      have way2 := way.on ok hx.1 hx.2
      have wl2 := way2.len
      obtain ⟨l0, l1⟩ := way.rng _ way.last
      obtain ⟨x0, x1', _⟩ := ok.ri _ x l0 l1 hx.1
      rw [List.length_append] at wl2
      simp at wl2
      refine iteT ⟨_, fun σ' H' h => h, ?_⟩
      refine ⟨_, rfl, .inl ⟨rfl, _, hw.sq⟩, _, rfl, on, _, _, _, rfl, rfl, hon.sq, atI_nat (j := 0) rfl, w0, _, _, rfl, rfl, hw, ?_, ?_⟩
      · rw [List.length_map]
        exact small1000 (by omega)
      have k4 : Kp w0 H (upd H3 w0 (.lst (wy.map V.int ++ [.int x]))) := fun c o nc e => by
        rw [upd_ne nc]
        exact kp _ _ nc e
      have hw4 : OrdAt (upd H3 w0 (.lst (wy.map V.int ++ [.int x]))) w0 (wy ++ [x]) := by
        show upd _ _ _ _ = _
        rw [upd_same, List.map_append]
        rfl
      have hon4 : OrdAt (upd H3 w0 (.lst (wy.map V.int ++ [.int x]))) on (x :: rest) := (upd_ne onw).trans hon
      generalize upd H3 w0 (.lst (wy.map V.int ++ [.int x])) = H4 at k4 hw4 hon4
      have s4 : Same H H4 := fun c o e => k4 c o (ne_of_none e nw) e
      obtain ⟨x2, r2, e2, _, t2, o2⟩ := (hI.same s4).at_ x0 (by rw [ok.li]; exact x1')
      refine ⟨_, rfl, _, rfl, on, _, _, _, rfl, rfl, hon4.sq, atI_nat (j := 0) rfl, li, _, _, _, rfl, rfl, SqL.of e2, t2, r2, rfl, ⟨_, o2.sq⟩, fun D nD => ?_⟩
      have r12 := (ok.few x0 x1').1
      have r2D : r2 ≠ D := ne_of_none o2 nD
      have wD : w0 ≠ D := ne_of_none hw4 nD
      have eL : lastOf (wy ++ [x]) = x := by
        unfold lastOf
        rw [List.length_append]
        exact getM_r
      refine lc_list (K := K) (a := r2) (xs := (row I x).map V.int) (fun j H5 => Kp D H4 H5 ∧ OrdAt H5 D (((row I x).take j).filter fun z => !decide (z ∈ wy ++ [x]))) ⟨Kp.put _ _ _, upd_same⟩ (fun j H5 _ ⟨k5, _⟩ => SqL.of (k5 _ _ r2D o2)) ?_ ?_
      · rintro j v H5 hv' ⟨k5, eD⟩
        obtain ⟨y, rfl⟩ := ints_at hv'
        have hy : (row I x)[j]? = some y := by
          rw [List.getElem?_map] at hv'
          cases e : (row I x)[j]? with
          | none =>
            rw [e] at hv'
            cases hv'
          | some u =>
            rw [e] at hv'
            injection hv' with hv'
            injection hv' with hv'
            rw [hv']
        have tk2 : (row I x).take (j + 1) = (row I x).take j ++ [y] := by
          rw [List.take_succ, hy]
          rfl
        have lf := List.length_filter_le (fun z => !decide (z ∈ wy ++ [x])) ((row I x).take j)
        rw [List.length_take] at lf
        refine ⟨rfl, _, rfl, _, rfl, w0, _, rfl, .inl (SqL.of (k5 _ _ wD hw4)), rfl, flat_intsV _, _, rfl, ?_⟩
        simp only [if_true]
        rw [inV_dec]
        by_cases mem : y ∈ wy ++ [x]
        · rw [decide_eq_true mem]
          refine iteF ⟨k5, ?_⟩
          rw [tk2, List.filter_append, List.filter_cons, if_neg (by rw [decide_eq_true mem]; exact Bool.false_ne_true), List.filter_nil, List.append_nil]
          exact eD
        · rw [decide_eq_false mem]
          refine iteT ⟨_, rfl, _, eD, ?_, k5.trans (Kp.put _ _ _), ?_⟩
          · rw [List.length_map]
            exact small1000 (by omega)
          · show upd _ _ _ _ = _
            rw [upd_same, tk2, List.filter_append, List.filter_cons, if_pos (by rw [decide_eq_false mem]; rfl), List.filter_nil, List.map_append]
            rfl
      · rintro H5 ⟨k5, eD⟩
        rw [List.length_map, List.take_length] at eD
        have s5 : Same H4 H5 := fun c o e => k5 c o (ne_of_none e nD) e
        refine ⟨_, rfl, D, _, rfl, eD.sq, fun on5 non5 => ?_⟩
        have s6 := same_new (o := .lst (cutV (((row I x).filter fun z => !decide (z ∈ wy ++ [x])).map V.int) none (some 1))) non5
        refine ⟨n - (wy ++ [x]).length, ?_, wy ++ [x], on5, _, rfl, rfl, fun c o nc e => s6 _ _ (s5 _ _ (k4 _ _ nc e)), s6 _ _ (s5 _ _ hw4), ?_, Ne.symm (ne_of_none (s5 _ _ hw4) non5), way2, by rw [← wf, show 14 - wy.length = (14 - (wy ++ [x]).length) + 1 by rw [List.length_append]; simp; omega, wayGo_on ho]⟩
        · rw [List.length_append]
          simp
          omega
        · show upd _ _ _ _ = _
          rw [upd_same, show (some (1 : Int)) = some ((1 : Nat) : Int) from rfl, cut_to, ← List.map_take]
          unfold onOf
          rw [eL]
end
end DR

set_option Elab.async false
set_option linter.all false
set_option maxRecDepth 100000
set_option maxHeartbeats 4000000
/-! ### a tie in a tuple of ties -/
namespace DR
open PySem PySem.Spec PyProof.Rows L2
/-- a tuple of ties -/
def TiesT (H : Hp) (k : Addr) (ps : List (Int × Int)) : Prop := ∃ as : List Addr, H k = some (.tup (as.map V.ref)) ∧ TupsAt H as ps
theorem TiesT.same {H H' : Hp} {k : Addr} {ps : List (Int × Int)} (h : TiesT H k ps) (s : Same H H') : TiesT H' k ps := by
  obtain ⟨as, e, t⟩ := h
  exact ⟨as, s _ _ e, t.same s⟩
theorem TiesT.dp {K : PySem.W.Frag} {H : Hp} {l : Addr} {ps : List (Int × Int)} (h : TiesT H l ps) : Dp K H (.ref l) (.tuple (ps.map pd)) := by
  obtain ⟨as, e, t⟩ := h
  exact .tup (SqT.of e) (pds_dp t)
section
variable {X : Cx}
def rInT (neg : Bool) : R2 := fun x y H Q => ∃ (t k : Addr) (p : Int × Int) (ps : List (Int × Int)), x = .ref t ∧ y = .ref k ∧ H t = some (.tup [.int p.1, .int p.2]) ∧ TiesT H k ps ∧ Q (.bl (if neg then !decide (p ∈ ps) else decide (p ∈ ps))) H
theorem op_inT (hu : X.A.units + 65 < cLine) : OpR X (compareOp .In) (rInT false) := by
  intro pins s σ H x y v u Q I rx ry h
  obtain ⟨t, k, p, ps, rfl, rfl, ht, hk, q⟩ := h
  obtain ⟨as, r1⟩ := Dp.reads I (pd p) _ v (pd_dp ht) rx
  obtain ⟨bs, r2⟩ := Dp.reads I (.tuple (ps.map pd)) _ u hk.dp ry
  refine SeqAt.in_tuple_reads r2 r1 (pds_lay ps) (pd_lay p) (room_in_shaped (pd_shaped p) hu) ⟨.bl _, H, I, rfl, ?_⟩
  rw [pds_any]
  exact q
theorem op_notInT (hu : X.A.units + 65 < cLine) : OpR X (compareOp .NotIn) (rInT true) := by
  intro pins s σ H x y v u Q I rx ry h
  obtain ⟨t, k, p, ps, rfl, rfl, ht, hk, q⟩ := h
  obtain ⟨as, r1⟩ := Dp.reads I (pd p) _ v (pd_dp ht) rx
  obtain ⟨bs, r2⟩ := Dp.reads I (.tuple (ps.map pd)) _ u hk.dp ry
  refine SeqAt.notIn_tuple_reads r2 r1 (pds_lay ps) (pd_lay p) (room_in_shaped (pd_shaped p) hu) ⟨.bl _, H, I, rfl, ?_⟩
  rw [pds_any]
  exact q
end
end DR

set_option Elab.async false
set_option linter.all false
set_option maxRecDepth 100000
set_option maxHeartbeats 4000000
/-! ### few ties, few rows -/
namespace DR
open PySem PySem.Spec PyProof.Rows L2
def hasU (u : Int) (p : Int × Int) : Bool := decide (p.1 = u) || decide (p.2 = u)
def dN (ps : List (Int × Int)) (u : Int) : Nat := (ps.filter (hasU u)).length
theorem cnt_dN {ps : List (Int × Int)} (h : ∀ p ∈ ps, p.1 < p.2) (a : Int) : cnt ps a = (dN ps a : Nat) := by
  induction ps with
  | nil => rfl
  | cons p r ih =>
    have ih := ih fun q hq => h q (List.mem_cons_of_mem _ hq)
    have hp := h p List.mem_cons_self
    have e : cnt (p :: r) a = ((if p.1 = a then 1 else 0) + (if p.2 = a then 1 else 0)) + cnt r a := by simp [cnt]
    rw [e, ih]
    unfold dN
    rw [List.filter_cons]
    unfold hasU
    by_cases c1 : p.1 = a
    · have c2 : ¬ p.2 = a := by omega
      simp [c1, c2]
      omega
    · by_cases c2 : p.2 = a
      · simp [c1, c2]
        omega
      · simp [c1, c2]
def mx (d : Nat) : Nat := if d = 0 then 1 else d
def prodD (ps : List (Int × Int)) : List Int → Nat
  | [] => 1
  | u :: l => mx (dN ps u) * prodD ps l
theorem mx_pos (d : Nat) : 1 ≤ mx d := by
  unfold mx
  by_cases h : d = 0 <;> simp [h] <;> omega
theorem mx_le (d : Nat) : d ≤ mx d := by
  unfold mx
  by_cases h : d = 0 <;> simp [h]
theorem prod_pos (ps : List (Int × Int)) : ∀ l, 1 ≤ prodD ps l
  | [] => Nat.le_refl _
  | u :: l => by
    unfold prodD
    exact Nat.mul_le_mul (mx_pos _) (prod_pos ps l)
theorem prod_out (ps : List (Int × Int)) {x : Int} : ∀ {l : List Int}, l.Nodup → x ∈ l → prodD ps l = mx (dN ps x) * prodD ps (l.filter fun y => decide (y ≠ x))
  | [], _, h => absurd h (by simp)
  | u :: l, nd, h => by
    obtain ⟨n1, n2⟩ := List.nodup_cons.mp nd
    by_cases e : u = x
    · subst e
      have : (u :: l).filter (fun y => decide (y ≠ u)) = l := by
        rw [List.filter_cons]
        simp only [ne_eq, not_true_eq_false, decide_false, Bool.false_eq_true, if_false]
        rw [List.filter_eq_self]
        intro y hy
        exact decide_eq_true fun z => n1 (z ▸ hy)
      rw [this]
      rfl
    · have hx : x ∈ l := by
        rcases List.mem_cons.mp h with z | z
        · exact absurd z.symm e
        · exact z
      have : (u :: l).filter (fun y => decide (y ≠ x)) = u :: l.filter fun y => decide (y ≠ x) := by
        rw [List.filter_cons, decide_eq_true (show u ≠ x from e)]
        rfl
      rw [this]
      show mx (dN ps u) * prodD ps l = mx (dN ps x) * (mx (dN ps u) * prodD ps _)
      rw [prod_out ps n2 hx, Nat.mul_left_comm]
theorem near_few {n : Nat} {ps : List (Int × Int)} (ti : Ties n ps) (row : List Int) (x : Int) : ((restOf n row).filter (tied ps x)).length ≤ dN ps x := by
  have h := cnt_cp (upTo_nodup n) x ti.nd fun p hp => by
    have b := ti.bound hp
    have := ti.rng p hp
    exact ⟨this.2.1, upTo_mem.mpr ⟨b.1, b.2.1⟩, upTo_mem.mpr ⟨b.2.2.1, b.2.2.2⟩⟩
  rw [cnt_dN (fun p hp => (ti.rng p hp).2.1)] at h
  have h2 : dN ps x = (upTo n).countP (tied ps x) := by omega
  rw [h2, List.countP_eq_length_filter]
  unfold restOf
  rw [List.filter_filter]
  refine nodup_le _ _ ((upTo_nodup n).filter _) fun y hy => ?_
  obtain ⟨h3, h4⟩ := List.mem_filter.mp hy
  simp only [Bool.and_eq_true] at h4
  exact List.mem_filter.mpr ⟨h3, h4.1⟩
theorem sum_le_const {α : Type} (f : α → Nat) (c : Nat) : ∀ {l : List α}, (∀ a ∈ l, f a ≤ c) → (l.map f).sum ≤ l.length * c
  | [], _ => by simp
  | a :: l, h => by
    have ih := sum_le_const f c (l := l) fun b hb => h b (List.mem_cons_of_mem _ hb)
    have := h a List.mem_cons_self
    rw [List.map_cons, List.sum_cons, List.length_cons, Nat.succ_mul]
    omega
theorem ext_few {n : Nat} {ps : List (Int × Int)} (ti : Ties n ps) : ∀ (k : Nat) (row : List Int), (extGo n ps k [row]).length ≤ mx (dN ps (lastOf row)) * prodD ps (restOf n row)
  | 0, row => by
    show 1 ≤ _
    exact Nat.mul_le_mul (mx_pos _) (prod_pos ps _)
  | k + 1, row => by
    show (extGo n ps k ([row].flatMap (nexts n ps))).length ≤ _
    have e : [row].flatMap (nexts n ps) = nexts n ps row := by simp
    rw [e, extGo_flat, List.length_flatMap]
    unfold nexts
    rw [goes_rest, List.map_map]
    refine Nat.le_trans (sum_le_const _ (prodD ps (restOf n row)) fun x hx => ?_) (Nat.mul_le_mul_right _ (Nat.le_trans (near_few ti row _) (mx_le _)))
    have hx2 := (List.mem_filter.mp hx).1
    have nd : (restOf n row).Nodup := (upTo_nodup n).filter _
    show (extGo n ps k [row ++ [x]]).length ≤ _
    refine Nat.le_trans (ext_few ti k (row ++ [x])) ?_
    rw [lastOf_snoc, rest_snoc, ← prod_out ps nd hx2]
    exact Nat.le_refl _
theorem rows_prod {n : Nat} (n1 : 1 ≤ n) {ps : List (Int × Int)} (ti : Ties n ps) (k : Nat) : (rowsOf n ps k).length ≤ prodD ps (upTo n) := by
  rw [rows_ext]
  refine Nat.le_trans (ext_few ti k [0]) ?_
  have h0 : (0 : Int) ∈ upTo n := upTo_mem.mpr (by omega)
  rw [prod_out ps (upTo_nodup n) h0]
  have e : restOf n [0] = (upTo n).filter fun y => decide (y ≠ 0) := by
    unfold restOf
    refine List.filter_congr fun y _ => ?_
    by_cases c : y = 0 <;> simp [c]
  rw [e]
  exact Nat.le_refl _
theorem mx_cube : ∀ d : Nat, d ≤ 30 → mx d ^ 3 ≤ 3 ^ d := fun d h => by
  have : ∀ d : Fin 31, mx d.val ^ 3 ≤ 3 ^ d.val := by decide
  exact this ⟨d, by omega⟩
theorem prod_cube {ps : List (Int × Int)} : ∀ {l : List Int}, (∀ u ∈ l, dN ps u ≤ 30) → prodD ps l ^ 3 ≤ 3 ^ (l.map (dN ps)).sum
  | [], _ => Nat.le_refl _
  | u :: l, h => by
    show (mx (dN ps u) * prodD ps l) ^ 3 ≤ _
    rw [Nat.mul_pow, List.map_cons, List.sum_cons, Nat.pow_add]
    exact Nat.mul_le_mul (mx_cube _ (h u List.mem_cons_self)) (prod_cube fun v hv => h v (List.mem_cons_of_mem _ hv))
theorem two_ends (p : Int × Int) : ∀ {l : List Int}, l.Nodup → (l.filter fun u => hasU u p).length ≤ 2 := fun {l} nd => by
  refine nodup_le _ [p.1, p.2] (nd.filter _) fun u hu => ?_
  have := (List.mem_filter.mp hu).2
  unfold hasU at this
  simp only [Bool.or_eq_true, decide_eq_true_eq] at this
  rcases this with h | h
  · simp [h]
  · simp [h]
theorem deg_sum : ∀ (ps : List (Int × Int)) {l : List Int}, l.Nodup → (l.map (dN ps)).sum ≤ 2 * ps.length
  | [], l, _ => by
    have : ∀ l : List Int, (l.map (dN [])).sum = 0 := by
      intro l
      induction l with
      | nil => rfl
      | cons a l ih => rw [List.map_cons, List.sum_cons, ih]; rfl
    rw [this]
    exact Nat.zero_le _
  | p :: ps, l, nd => by
    have ih := deg_sum ps nd
    have h2 := two_ends p nd
    have key : ∀ l : List Int, (l.map (dN (p :: ps))).sum = (l.filter fun u => hasU u p).length + (l.map (dN ps)).sum := by
      intro l
      induction l with
      | nil => rfl
      | cons u l ih2 =>
        have e : dN (p :: ps) u = (if hasU u p = true then 1 else 0) + dN ps u := by
          unfold dN
          rw [List.filter_cons]
          cases hasU u p with
          | true => simp; omega
          | false => simp
        rw [List.map_cons, List.sum_cons, ih2, e, List.map_cons, List.sum_cons, List.filter_cons]
        cases hasU u p with
        | true => simp; omega
        | false => simp; omega
    rw [key, List.length_cons]
    omega
theorem rows_few17 {n : Nat} (n1 : 1 ≤ n) (n30 : n ≤ 30) {ps : List (Int × Int)} (ti : Ties n ps) (few : ps.length ≤ 17) (k : Nat) : (rowsOf n ps k).length ≤ 16000000 := by
  refine Nat.le_trans (rows_prod n1 ti k) ?_
  have h1 := prod_cube (ps := ps) (l := upTo n) fun u _ => by
    have := List.length_filter_le (hasU u) ps
    unfold dN
    omega
  have h2 := deg_sum ps (upTo_nodup n)
  have h3 : prodD ps (upTo n) ^ 3 ≤ 3 ^ 34 := Nat.le_trans h1 (Nat.pow_le_pow_right (by omega) (by omega))
  by_cases c : prodD ps (upTo n) ≤ 16000000
  · exact c
  · exfalso
    have h4 : 16000001 ^ 3 ≤ prodD ps (upTo n) ^ 3 := Nat.pow_le_pow_left (by omega) 3
    have h5 := Nat.le_trans h4 h3
    exact absurd h5 (by decide)
end DR

set_option Elab.async false
set_option linter.all false
set_option maxRecDepth 100000
set_option maxHeartbeats 4000000
/-! #### trees of cases, by data -/
namespace DR
open PySem PySem.Spec PyProof.Rows L2
def mm2 (a b : Int) : Int × Int := (min a b, max a b)
inductive Tr
  | few (p : Int) | three (p : Int) | ring (w : List Int) | tie (a b : Int) (x y : Tr) | odd
def Tr.size : Tr → Nat
  | .tie _ _ x y => x.size + y.size + 1
  | _ => 1
def Tr.deep : Tr → Nat
  | .tie _ _ x y => max x.deep y.deep + 1
  | _ => 0
/-- no node at all: a tuple of a word and things that aren't one -/
def OddAt (H : Hp) (t : Addr) : Prop := ∃ (s : Str) (us : List V), H t = some (.tup (.str s :: us)) ∧ (s = "few" → us.length ≠ 1) ∧ (s = "three" → us.length ≠ 1) ∧ (s = "ring" → us.length ≠ 1) ∧ (s = "tie" → us.length ≠ 3)
def TrAt (H : Hp) (t : Addr) : Tr → Prop
  | .few p => H t = some (.tup [.str "few", .int p])
  | .three p => H t = some (.tup [.str "three", .int p])
  | .ring w => ∃ r, H t = some (.tup [.str "ring", .ref r]) ∧ (OrdAt H r w ∨ TupAt H r w) ∧ w.length ≤ 40
  | .tie a b x y => ∃ r t1 t2, H t = some (.tup [.str "tie", .ref r, .ref t1, .ref t2]) ∧ TupAt H r [a, b] ∧ TrAt H t1 x ∧ TrAt H t2 y
  | .odd => OddAt H t
theorem TrAt.same {H H' : Hp} (s : Same H H') : ∀ {x : Tr} {t : Addr}, TrAt H t x → TrAt H' t x
  | .few p, t, h => s _ _ h
  | .three p, t, h => s _ _ h
  | .ring w, t, ⟨r, h1, h2, h3⟩ => ⟨r, s _ _ h1, h2.elim (fun h => .inl (h.same s)) (fun h => .inr (h.same s)), h3⟩
  | .tie a b x y, t, ⟨r, t1, t2, h1, h2, h3, h4⟩ => ⟨r, t1, t2, s _ _ h1, h2.same s, TrAt.same s h3, TrAt.same s h4⟩
  | .odd, t, ⟨w, us, h1, h2⟩ => ⟨w, us, s _ _ h1, h2⟩
/-- in how many of the ties a place stands -/
abbrev stand (I : List (Int × Int)) (p : Int) : Nat := dN I p
def cycP (w : List Int) : List (Int × Int) := w.zip (w.drop 1 ++ [w.getD 0 0])
def ringOk (n : Nat) (I : List (Int × Int)) (w : List Int) : Bool := decide (3 ≤ w.length) && (decide (w.length < n) && (decide w.Nodup && (cycP w).all fun p => decide (mm2 p.1 p.2 ∈ I)))
def fewOk (n : Nat) (ps O : List (Int × Int)) (p : Int) : Bool := decide (0 ≤ p ∧ p < (n : Int)) && decide (cnt ps p - (stand O p : Int) < 2)
def threeOk (I : List (Int × Int)) (p : Int) : Bool := decide (2 < stand I p)
def treeOk (n : Nat) (ps : List (Int × Int)) : Tr → List (Int × Int) → List (Int × Int) → Bool
  | .few p, I, O => fewOk n ps O p
  | .three p, I, O => threeOk I p
  | .ring w, I, O => ringOk n I w
  | .tie a b x y, I, O => decide ((a, b) ∈ ps) && (!decide ((a, b) ∈ I) && (!decide ((a, b) ∈ O) && (treeOk n ps x (I ++ [(a, b)]) O && treeOk n ps y I (O ++ [(a, b)]))))
  | .odd, I, O => false
end DR

set_option Elab.async false
set_option linter.all false
set_option maxRecDepth 100000
set_option maxHeartbeats 4000000
namespace DR
open PySem PySem.Spec PyProof.Rows L2
/-! #### leaf_of tells one node alone -/
/-- a told tree: the lists in it are new -/
def TrF (G H : Hp) (t : Addr) : Tr → Prop
  | .few p => H t = some (.tup [.str "few", .int p])
  | .three p => H t = some (.tup [.str "three", .int p])
  | .ring w => ∃ r, H t = some (.tup [.str "ring", .ref r]) ∧ OrdAt H r w ∧ G r = none ∧ w.length ≤ 40
  | .tie a b x y => ∃ r t1 t2, H t = some (.tup [.str "tie", .ref r, .ref t1, .ref t2]) ∧ TupAt H r [a, b] ∧ TrF G H t1 x ∧ TrF G H t2 y
  | .odd => False
theorem TrF.same {G H H' : Hp} (s : Same H H') : ∀ {x : Tr} {t : Addr}, TrF G H t x → TrF G H' t x
  | .few p, t, h => s _ _ h
  | .three p, t, h => s _ _ h
  | .ring w, t, ⟨r, h1, h2, h3⟩ => ⟨r, s _ _ h1, h2.same s, h3⟩
  | .tie a b x y, t, ⟨r, t1, t2, h1, h2, h3, h4⟩ => ⟨r, t1, t2, s _ _ h1, h2.same s, TrF.same s h3, TrF.same s h4⟩
theorem TrF.base {G G' H : Hp} (s : Same G G') : ∀ {x : Tr} {t : Addr}, TrF G' H t x → TrF G H t x
  | .few p, t, h => h
  | .three p, t, h => h
  | .ring w, t, ⟨r, h1, h2, h3, h4⟩ => ⟨r, h1, h2, s.free h3, h4⟩
  | .tie a b x y, t, ⟨r, t1, t2, h1, h2, h3, h4⟩ => ⟨r, t1, t2, h1, h2, TrF.base s h3, TrF.base s h4⟩
def leaf1 (I U : List (List Int)) (p : Int) : Option Tr := if (row I p).length + (row U p).length < 2 then some (.few p) else if 2 < (row I p).length then some (.three p) else none
def leaf2 (I : List (List Int)) (p : Int) : Option Tr := if (row I p).length = 2 ∧ lastOf (wayF I p) ∈ row I p ∧ 2 < (wayF I p).length then some (.ring (wayF I p)) else none
def leafF (n : Nat) (I U : List (List Int)) : Option Tr := match (upTo n).findSome? (leaf1 I U) with
  | some x => some x
  | none => (upTo n).findSome? (leaf2 I)
/-- the first place where f tells something -/
theorem first_at {α : Type} {n : Nat} {f : Int → Option α} {i : Nat} {x : α} (hi : i < n) (no : ∀ p : Int, 0 ≤ p → p < i → f p = none) (h : f i = some x) : (upTo n).findSome? f = some x := by
  have e : upTo n = upTo i ++ ((i : Int) :: ((upTo n).drop (i + 1))) := by
    have h1 : (upTo n).take i = upTo i := by
      unfold upTo
      rw [← List.map_take, List.take_range, Nat.min_eq_left (by omega)]
    have h2 : (upTo n)[i]? = some (i : Int) := by
      unfold upTo
      rw [List.getElem?_map, List.getElem?_range hi]
      rfl
    obtain ⟨hl, h3⟩ := List.getElem?_eq_some_iff.mp h2
    conv => lhs; rw [← List.take_append_drop i (upTo n), h1, List.drop_eq_getElem_cons hl, h3]
  rw [e, List.findSome?_append, List.findSome?_eq_none_iff.mpr fun p hp => by
    have := upTo_mem.mp hp
    exact no p this.1 this.2]
  rw [List.findSome?_cons, h]
  rfl
theorem first_none {α : Type} {n : Nat} {f : Int → Option α} (no : ∀ p : Int, 0 ≤ p → p < n → f p = none) : (upTo n).findSome? f = none := List.findSome?_eq_none_iff.mpr fun p hp => by
  have := upTo_mem.mp hp
  exact no p this.1 this.2
theorem leaf1_none {I U : List (List Int)} {p : Int} (h : 2 ≤ (row I p).length + (row U p).length ∧ (row I p).length ≤ 2) : leaf1 I U p = none := by
  unfold leaf1
  rw [if_neg (by omega), if_neg (by omega)]
section
variable {P : Program} {w : World} {K : PySem.W.Frag} {mg : Str → Option Value} {base : Heap} {C CS : Addr}
def spLeafF (C : Addr) : Sp := fun vs H Q _ => ∃ (s : Addr) (n : Nat) (I U : List (List Int)), vs = [.ref s] ∧ SaidAt C H s I U ∧ SaidOk n I U ∧ n ≤ 12 ∧
  ∀ H', Same H H' → (NoLeaf n I U → leafF n I U = none → Q .non H') ∧ ∀ t x, leafF n I U = some x → TrF H H' t x → Q (.ref t) H'
theorem has_leafF (D : IsDef K mg "leaf_of" s_leaf_of) (B : Blt mg) (T : STxt K mg CS) (MN : HasM P w K mg base CS 1 "many_not_out" ["self", "place"] (spMno CS)) (WF : Has P w K mg base 1 "way_from" ["ins", "first"] spWayF) : Has P w K mg base 2 "leaf_of" ["said"] (spLeafF CS) := by
  refine has_of D scLeaf (fun _ _ _ _ _ _ us hl => match us, hl with | [_], _ => rfl) (fun vs H Q E h => ?_) (fun f cdv A outer s H vs Q E hr h => ?_)
  · obtain ⟨s, n, I, U, rfl, _⟩ := h
    rfl
  · obtain ⟨sa, n, I, U, rfl, hs, ok, n12, q⟩ := h
    refine ⟨_, pss_cons (ps_for PassesOwn.never rfl (pi_enum (by rfl) B.enumerate (pa_cons (pe_fld (pv 0) rfl) pa_nil)) (pg_tup rfl (pgs_cons (pg_name (i := 1) scLeaf.nd rfl (.inl rfl)) (pgs_cons (pg_name (i := 2) scLeaf.nd rfl (.inl rfl)) pgs_nil)))
        (pss_cons (ps_if (pt_cmpR op_lt (pe_hasM (pv 0) T.cl MN hr (by decide) (pa_cons (pv 1) pa_nil)) pe_int (nomark _)) (pss_one (ps_ret (pe_tup (pa_cons pe_str (pa_cons (pv 1) pa_nil))))) pss_nil)
        (pss_one (ps_if (pt_cmpR op_gt (pe_callB call_len_seq (by rfl) B.len PySem.boot_len (pa_cons (pv 2) pa_nil)) pe_int (nomark _)) (pss_one (ps_ret (pe_tup (pa_cons pe_str (pa_cons (pv 1) pa_nil))))) pss_nil))))
      (pss_cons (ps_for PassesOwn.never rfl (pi_enum (by rfl) B.enumerate (pa_cons (pe_fld (pv 0) rfl) pa_nil)) (pg_tup rfl (pgs_cons (pg_name (i := 1) scLeaf.nd rfl (.inl rfl)) (pgs_cons (pg_name (i := 2) scLeaf.nd rfl (.inl rfl)) pgs_nil)))
        (pss_cons (ps_set (i := 3) scLeaf.nd rfl (.inl rfl) (pe_has WF hr (by decide) (by rfl) (pa_cons (pe_fld (pv 0) rfl) (pa_cons (pv 1) pa_nil))))
        (pss_one (ps_if (PW.pt (pw_and (pt_cmpR op_eq (pe_callB call_len_seq (by rfl) B.len PySem.boot_len (pa_cons (pv 2) pa_nil)) pe_int (nomark _)) (pw_and (pt_cmpR (r := rIn K false) op_in_seq (pe_ix (r := rIxL K) ix_list (pv 3) (pe_un un_neg pe_int) (fun _ _ => rfl)) (pv 2) (by with_unfolding_all rfl)) (pw_and1 (pt_cmpR op_gt (pe_callB call_len_seq (by rfl) B.len PySem.boot_len (pa_cons (pv 3) pa_nil)) pe_int (nomark _))))))
          (pss_one (ps_ret (pe_tup (pa_cons pe_str (pa_cons (pv 3) pa_nil))))) pss_nil))))
      (pss_one (ps_ret pe_non))), ?_⟩
    obtain ⟨dx, li, lu, ha, ⟨as, eI, oI⟩, hU⟩ := id hs
    have la := oI.length
    have li_ := ok.li
    refine ⟨_, rfl, sa, CS, dx, _, _, rfl, ha, T.cl, T.nI, look_sI li lu, li, _, rfl, SqL.of eI, for_it (walk_enum (K := K) (a := li) (xs := as.map V.ref)) (fun i σ H2 => ∃ x1 x2, σ = [some (.ref sa), x1, x2, none] ∧ Same H H2 ∧ ∀ p : Int, 0 ≤ p → p < i → 2 ≤ (row I p).length + (row U p).length ∧ (row I p).length ≤ 2)
      ⟨none, none, rfl, Same.refl _, fun p p0 p1 => absurd p1 (by omega)⟩ (fun i σ H2 _ ⟨_, _, _, s2, _⟩ => SqL.of (s2 _ _ eI)) ?_ ?_⟩
    · rintro i v σ H2 H3 hi ⟨x1, x2, rfl, s2, ih⟩ ⟨T_, x, y, rfl, nT, rfl, ex, ey⟩
      cases ex
      obtain ⟨r, rfl, or_⟩ := ll_enum (l := li) (oI.same s2) ey
      rw [List.length_map] at hi
      have s3 := s2.trans (same_new (o := .tup [.int (i : Nat), .ref r]) nT)
      have or3 := or_.same (same_new (o := .tup [.int (i : Nat), .ref r]) nT)
      refine ⟨T_, _, rfl, SqT.of upd_same, rfl, _, _, rfl, _, _, rfl, rfl, ?_⟩
      generalize upd H2 T_ (.tup [.int (i : Nat), .ref r]) = H3 at s3 or3
      have i1 : (i : Int) < n := by omega
      refine ⟨_, rfl, sa, dx, _, rfl, s3 _ _ ha, look_sM li lu, _, rfl, sa, n, I, U, (i : Int), rfl, hs.same s3, ok, by omega, i1, _, _, rfl, rfl, _, rfl, ite2 (fun c => ?_) (fun c => ?_)⟩
      · refine ⟨_, rfl, by show 2 ≤ sizeLine; decide, fun t nt => ?_⟩
        have c := of_decide_eq_true c
        unfold mno at c
        have e : leaf1 I U i = some (.few i) := if_pos (by omega)
        have e2 : leafF n I U = some (.few i) := by
          unfold leafF
          rw [first_at (by omega) (fun p p0 p1 => leaf1_none (ih p p0 p1)) e]
        exact (q _ (s3.trans (same_new nt))).2 t _ e2 upd_same
      · have c : ¬ mno I U i < 2 := fun z => c (decide_eq_true z)
        unfold mno at c
        refine ⟨_, rfl, r, _, rfl, .inl or3.sq, _, _, rfl, rfl, _, rfl, ite2 (fun c2 => ?_) (fun c2 => ?_)⟩
        · refine ⟨_, rfl, by show 2 ≤ sizeLine; decide, fun t nt => ?_⟩
          have c2 := of_decide_eq_true c2
          rw [List.length_map] at c2
          have e : leaf1 I U i = some (.three i) := by
            unfold leaf1
            rw [if_neg (by omega), if_pos (by omega)]
          have e2 : leafF n I U = some (.three i) := by
            unfold leafF
            rw [first_at (by omega) (fun p p0 p1 => leaf1_none (ih p p0 p1)) e]
          exact (q _ (s3.trans (same_new nt))).2 t _ e2 upd_same
        · rw [decide_eq_true_eq, List.length_map] at c2
          refine ⟨_, _, rfl, s3, fun p p0 p1 => ?_⟩
          by_cases e : p = (i : Int)
          · subst e
            omega
          · exact ih p p0 (by omega)
    · rintro σ H2 ⟨x1, x2, rfl, s2, ih⟩
      rw [List.length_map, la, li_] at ih
      refine ⟨_, rfl, sa, CS, dx, _, _, rfl, s2 _ _ ha, T.cl, T.nI, look_sI li lu, li, _, rfl, SqL.of (s2 _ _ eI), for_it (walk_enum (K := K) (a := li) (xs := as.map V.ref)) (fun i σ H3 => ∃ x1 x2 x3, σ = [some (.ref sa), x1, x2, x3] ∧ Same H H3 ∧ ∀ p : Int, 0 ≤ p → p < i → (∃ w, IsWay n I p w ∧ ¬ ((row I p).length = 2 ∧ lastOf w ∈ row I p ∧ 2 < w.length)) ∧ leaf2 I p = none)
        ⟨_, _, _, rfl, s2, fun p p0 p1 => absurd p1 (by omega)⟩ (fun i σ H3 _ ⟨_, _, _, _, s3, _⟩ => SqL.of (s3 _ _ eI)) ?_ ?_⟩
      · rintro i v σ H3 H4 hi ⟨x1, x2, x3, rfl, s3, ih2⟩ ⟨T_, x, y, rfl, nT, rfl, ex, ey⟩
        cases ex
        obtain ⟨r, rfl, or_⟩ := ll_enum (l := li) (oI.same s3) ey
        rw [List.length_map] at hi
        have s4 := s3.trans (same_new (o := .tup [.int (i : Nat), .ref r]) nT)
        have or4 := or_.same (same_new (o := .tup [.int (i : Nat), .ref r]) nT)
        refine ⟨T_, _, rfl, SqT.of upd_same, rfl, _, _, rfl, _, _, rfl, rfl, ?_⟩
        generalize upd H3 T_ (.tup [.int (i : Nat), .ref r]) = H4 at s4 or4
        have i1 : (i : Int) < n := by omega
        refine ⟨_, rfl, sa, CS, dx, _, _, rfl, s4 _ _ ha, T.cl, T.nI, look_sI li lu, _, rfl, li, n, I, U, (i : Int), rfl, ⟨as, s4 _ _ eI, oI.same s4⟩, ok, n12, by omega, i1, fun H5 wr wy s5 nwr owy way wf => ?_⟩
        have s45 := s4.trans s5
        have or5 := or4.same s5
        have wne := way.ne
        have next : ¬ ((row I i).length = 2 ∧ lastOf wy ∈ row I i ∧ 2 < wy.length) → ∃ x1 x2 x3, [some (V.ref sa), some (.int (i : Nat)), some (.ref r), some (.ref wr)] = [some (V.ref sa), x1, x2, x3] ∧ Same H H5 ∧ ∀ p : Int, 0 ≤ p → p < ((i + 1 : Nat) : Int) → (∃ w, IsWay n I p w ∧ ¬ ((row I p).length = 2 ∧ lastOf w ∈ row I p ∧ 2 < w.length)) ∧ leaf2 I p = none := fun no => by
          refine ⟨_, _, _, rfl, s45, fun p p0 p1 => ?_⟩
          by_cases e : p = (i : Int)
          · subst e
            exact ⟨⟨wy, way, no⟩, if_neg (by rw [← wf]; exact no)⟩
          · exact ih2 p p0 (by omega)
        refine ⟨_, rfl, r, _, rfl, .inl or5.sq, rfl, _, rfl, ite2 (fun c => ?_) (fun c => ?_)⟩
        · have c : (row I i).length = 2 := by
            have := of_decide_eq_true c
            injection this with this
            rw [List.length_map] at this
            omega
          refine ⟨_, rfl, _, rfl, wr, _, _, _, rfl, rfl, owy.sq, owy.atI_end wne, _, rfl, r, _, rfl, .inl or5.sq, rfl, flat_intsV _, _, rfl, ?_⟩
          simp only [Bool.false_eq_true, if_false]
          rw [inV_dec]
          by_cases mem : lastOf wy ∈ row I i
          · rw [show decide (wy.getD (wy.length - 1) 0 ∈ row I i) = true from decide_eq_true mem]
            refine iteT ?_
            refine ⟨_, rfl, wr, _, rfl, .inl owy.sq, _, _, rfl, rfl, _, rfl, ?_⟩
            rw [List.length_map]
            refine ite2 (fun c2 => ?_) (fun c2 => next ?_)
            · have c2 := of_decide_eq_true c2
              refine ⟨_, rfl, by show 2 ≤ sizeLine; decide, fun t nt => ?_⟩
              have s6 := same_new (o := .tup [.str "ring", .ref wr]) nt
              have e : leaf2 I i = some (.ring (wayF I i)) := if_pos (by rw [← wf]; exact ⟨c, mem, by omega⟩)
              have e2 : leafF n I U = some (.ring (wayF I i)) := by
                unfold leafF
                rw [first_none fun p p0 p1 => leaf1_none (ih p p0 (by omega))]
                exact first_at (by omega) (fun p p0 p1 => (ih2 p p0 p1).2) e
              have wl := nodup_le wy (upTo n) way.nd fun x hx => upTo_mem.mpr (way.rng x hx)
              rw [upTo_len] at wl
              exact (q _ (s45.trans s6)).2 t _ e2 ⟨wr, upd_same, by rw [← wf]; exact owy.same s6, s4.free nwr, by rw [← wf]; omega⟩
            · rintro ⟨_, _, z⟩
              exact c2 (decide_eq_true (by omega))
          · rw [show decide (wy.getD (wy.length - 1) 0 ∈ row I i) = false from decide_eq_false mem]
            refine iteF ?_
            exact next fun z => mem z.2.1
        · refine iteF (next fun z => c (decide_eq_true ?_))
          rw [List.length_map, z.1]
          rfl
      · rintro σ H3 ⟨x1, x2, x3, rfl, s3, ih2⟩
        rw [List.length_map, la, li_] at ih2
        refine (q _ s3).1 ⟨ih, fun p p0 p1 => (ih2 p p0 p1).1⟩ ?_
        unfold leafF
        rw [first_none fun p p0 p1 => leaf1_none (ih p p0 p1)]
        exact first_none fun p p0 p1 => (ih2 p p0 p1).2
end
end DR

set_option Elab.async false
set_option linter.all false
set_option maxRecDepth 100000
set_option maxHeartbeats 4000000
namespace DR
open PySem PySem.Spec PyProof.Rows L2
/-! #### barred_tie, tightest_tie tell one tie alone -/
def barAt (I U : List (List Int)) (p : Int) : Option (Int × Int) := match row U p with
  | [] => none
  | x0 :: _ => if (row I p).length = 2 then some (p, x0) else if (row I p).length = 1 ∧ lastOf (wayF I p) ∈ row U p then some (p, lastOf (wayF I p)) else none
def barF (n : Nat) (I U : List (List Int)) : Option (Int × Int) := (upTo n).findSome? (barAt I U)
def tightF (n : Nat) (I U : List (List Int)) : Int × Int := (minBy (mno I U) ((upTo n).filter fun p => !(row U p).isEmpty), minBy (mno I U) (row U (minBy (mno I U) ((upTo n).filter fun p => !(row U p).isEmpty))))
section
variable {P : Program} {w : World} {K : PySem.W.Frag} {mg : Str → Option Value} {base : Heap} {C CS : Addr}
def spBarredF (C : Addr) : Sp := fun vs H Q _ => ∃ (s : Addr) (n : Nat) (I U : List (List Int)), vs = [.ref s] ∧ SaidAt C H s I U ∧ SaidOk n I U ∧ n ≤ 12 ∧
  ∀ H', Same H H' → (barF n I U = none → Q .non H') ∧ ∀ (t : Addr) (p x : Int), barF n I U = some (p, x) → 0 ≤ p → p < n → x ∈ row U p → TupAt H' t [p, x] → Q (.ref t) H'
def spTightF (C : Addr) : Sp := fun vs H Q _ => ∃ (s : Addr) (n : Nat) (I U : List (List Int)), vs = [.ref s] ∧ SaidAt C H s I U ∧ SaidOk n I U ∧ n ≤ 12 ∧ (∃ p : Int, 0 ≤ p ∧ p < n ∧ row U p ≠ []) ∧
  ∀ (H' : Hp) (t : Addr) (p x : Int), Same H H' → tightF n I U = (p, x) → 0 ≤ p → p < n → x ∈ row U p → TupAt H' t [p, x] → Q (.ref t) H'
theorem has_barredF (D : IsDef K mg "barred_tie" s_barred_tie) (B : Blt mg) (T : STxt K mg CS) (WF : Has P w K mg base 1 "way_from" ["ins", "first"] spWayF) : Has P w K mg base 2 "barred_tie" ["said"] (spBarredF CS) := by
  refine has_of D scBarred (fun _ _ _ _ _ _ us hl => match us, hl with | [_], _ => rfl) (fun vs H Q E h => ?_) (fun f cdv A outer s H vs Q E hr h => ?_)
  · obtain ⟨s, n, I, U, rfl, _⟩ := h
    rfl
  · obtain ⟨sa, n, I, U, rfl, hs, ok, n12, q⟩ := h
    refine ⟨_, pss_cons (ps_for PassesOwn.never rfl (pi_enum (by rfl) B.enumerate (pa_cons (pe_fld (pv 0) rfl) pa_nil)) (pg_tup rfl (pgs_cons (pg_name (i := 1) scBarred.nd rfl (.inl rfl)) (pgs_cons (pg_name (i := 2) scBarred.nd rfl (.inl rfl)) pgs_nil)))
        (pss_cons (ps_set (i := 3) scBarred.nd rfl (.inl rfl) (pe_ix (r := rIxL K) ix_list (pe_fld (pv 0) rfl) (pv 1) (fun _ _ => rfl)))
        (pss_cons (ps_if (PW.pt (pw_and (pt_truth (pv 2) (by intro _; rfl)) (pw_and1 (pt_cmpR op_eq (pe_callB call_len_seq (by rfl) B.len PySem.boot_len (pa_cons (pv 3) pa_nil)) pe_int (nomark _)))))
          (pss_one (ps_ret (pe_tup (pa_cons (pv 1) (pa_cons (pe_ix (r := rIxL K) ix_list (pv 2) pe_int (fun _ _ => rfl)) pa_nil))))) pss_nil)
        (pss_cons (ps_set (i := 4) scBarred.nd rfl (.inl rfl) (pe_ix (r := rIxL K) ix_list (pe_has WF hr (by decide) (by rfl) (pa_cons (pe_fld (pv 0) rfl) (pa_cons (pv 1) pa_nil))) (pe_un un_neg pe_int) (fun _ _ => rfl)))
        (pss_one (ps_if (PW.pt (pw_and (pt_cmpR op_eq (pe_callB call_len_seq (by rfl) B.len PySem.boot_len (pa_cons (pv 3) pa_nil)) pe_int (nomark _)) (pw_and1 (pt_cmpR (r := rIn K false) op_in_seq (pv 4) (pv 2) (by with_unfolding_all rfl)))))
          (pss_one (ps_ret (pe_tup (pa_cons (pv 1) (pa_cons (pv 4) pa_nil))))) pss_nil))))))
      (pss_one (ps_ret pe_non)), ?_⟩
    obtain ⟨dx, li, lu, ha, hI, ⟨as, eU, oU⟩⟩ := id hs
    have la := oU.length
    have lu_ := ok.lu
    refine ⟨_, rfl, sa, CS, dx, _, _, rfl, ha, T.cl, T.nU, look_sU li lu, lu, _, rfl, SqL.of eU, for_it (walk_enum (K := K) (a := lu) (xs := as.map V.ref)) (fun i σ H2 => ∃ x1 x2 x3 x4, σ = [some (.ref sa), x1, x2, x3, x4] ∧ Same H H2 ∧ ∀ p : Int, 0 ≤ p → p < i → barAt I U p = none)
      ⟨none, none, none, none, rfl, Same.refl _, fun p p0 p1 => absurd p1 (by omega)⟩ (fun i σ H2 _ ⟨_, _, _, _, _, s2, _⟩ => SqL.of (s2 _ _ eU)) ?_ ?_⟩
    · rintro i v σ H2 H3 hi ⟨x1, x2, x3, x4, rfl, s2, ih⟩ ⟨T_, x, y, rfl, nT, rfl, ex, ey⟩
      cases ex
      obtain ⟨r, rfl, or_⟩ := ll_enum (l := lu) (oU.same s2) ey
      rw [List.length_map] at hi
      have s3 := s2.trans (same_new (o := .tup [.int (i : Nat), .ref r]) nT)
      have or3 := or_.same (same_new (o := .tup [.int (i : Nat), .ref r]) nT)
      refine ⟨T_, _, rfl, SqT.of upd_same, rfl, _, _, rfl, _, _, rfl, rfl, ?_⟩
      generalize upd H2 T_ (.tup [.int (i : Nat), .ref r]) = H3 at s3 or3
      have i0 : (0 : Int) ≤ i := by omega
      have i1 : (i : Int) < n := by omega
      obtain ⟨xs3, r3, e3, _, t3, o3⟩ := (hI.same s3).at_ i0 (by rw [ok.li]; exact i1)
      refine ⟨_, rfl, sa, CS, dx, _, _, rfl, s3 _ _ ha, T.cl, T.nI, look_sI li lu, _, rfl, li, _, _, _, rfl, rfl, SqL.of e3, t3, ?_⟩
      refine ⟨_, rfl, _, .inl ⟨_, or3.sq, rfl⟩, ?_⟩
      have nxt : barAt I U i = none → ∀ p : Int, 0 ≤ p → p < ((i + 1 : Nat) : Int) → barAt I U p = none := fun h p p0 p1 => by
        by_cases e : p = (i : Int)
        · subst e
          exact h
        · exact ih p p0 (by omega)
      have hit : ∀ {p x : Int}, barAt I U i = some (p, x) → barF n I U = some (p, x) := fun h => first_at (by omega) ih h
      cases hrow : row U (i : Int) with
      | nil =>
        rw [hrow] at or3
        refine iteF (iteF ?_)
        refine ⟨_, rfl, sa, CS, dx, _, _, rfl, s3 _ _ ha, T.cl, T.nI, look_sI li lu, _, rfl, li, n, I, U, (i : Int), rfl, hI.same s3, ok, n12, i0, i1, fun H5 wr wy s5 _ owy way wf => ?_⟩
        have s35 := s3.trans s5
        have wne := way.ne
        refine ⟨_, rfl, wr, _, _, _, rfl, rfl, owy.sq, owy.atI_end wne, _, rfl, r3, _, rfl, .inl (o3.same s5).sq, rfl, _, rfl, ite2 (fun c => ?_) (fun c => ?_)⟩
        · refine ⟨_, rfl, _, rfl, r, _, rfl, .inl (or3.same s5).sq, rfl, flat_intsV _, _, rfl, ?_⟩
          simp only [Bool.false_eq_true, if_false]
          rw [inV_dec]
          exact iteF ⟨_, _, _, _, rfl, s35, nxt (by unfold barAt; rw [hrow])⟩
        · exact iteF ⟨_, _, _, _, rfl, s35, nxt (by unfold barAt; rw [hrow])⟩
      | cons x0 xs0 =>
        have m0 : x0 ∈ row U (i : Int) := by
          rw [hrow]
          simp
        rw [hrow] at or3
        refine iteT ⟨_, rfl, r3, _, rfl, .inl o3.sq, rfl, _, rfl, ite2 (fun c => ?_) (fun c => ?_)⟩
        · refine ⟨_, rfl, _, rfl, r, _, _, _, rfl, rfl, or3.sq, atI_nat (j := 0) rfl, by show 2 ≤ sizeLine; decide, fun t nt => ?_⟩
          have c2 : (row I i).length = 2 := by
            have := of_decide_eq_true c
            injection this with this
            rw [List.length_map] at this
            omega
          exact (q _ (s3.trans (same_new nt))).2 t i x0 (hit (by unfold barAt; rw [hrow]; exact if_pos c2)) i0 i1 m0 upd_same
        · have c2 : ¬ (row I i).length = 2 := fun z => c (by rw [List.length_map, z]; rfl)
          refine ⟨_, rfl, sa, CS, dx, _, _, rfl, s3 _ _ ha, T.cl, T.nI, look_sI li lu, _, rfl, li, n, I, U, (i : Int), rfl, hI.same s3, ok, n12, i0, i1, fun H5 wr wy s5 _ owy way wf => ?_⟩
          have s35 := s3.trans s5
          have wne := way.ne
          refine ⟨_, rfl, wr, _, _, _, rfl, rfl, owy.sq, owy.atI_end wne, _, rfl, r3, _, rfl, .inl (o3.same s5).sq, rfl, _, rfl, ite2 (fun c1 => ?_) (fun c1 => ?_)⟩
          · refine ⟨_, rfl, _, rfl, r, _, rfl, .inl (or3.same s5).sq, rfl, flat_intsV _, _, rfl, ?_⟩
            simp only [Bool.false_eq_true, if_false]
            rw [inV_dec, ← hrow]
            have c3 : (row I i).length = 1 := by
              have := of_decide_eq_true c1
              injection this with this
              rw [List.length_map] at this
              omega
            refine ite2 (fun mem => ?_) (fun mem => ⟨_, _, _, _, rfl, s35, nxt (by unfold barAt; rw [hrow]; dsimp only; rw [if_neg c2, if_neg (fun z => mem (decide_eq_true (by rw [← wf, ← hrow] at z; exact z.2)))])⟩)
            refine ⟨_, rfl, _, rfl, by show 2 ≤ sizeLine; decide, fun t nt => ?_⟩
            exact (q _ (s35.trans (same_new nt))).2 t i _ (hit (by unfold barAt; rw [hrow]; dsimp only; rw [if_neg c2, if_pos ⟨c3, by rw [← wf, ← hrow]; exact of_decide_eq_true mem⟩, ← wf]; rfl)) i0 i1 (of_decide_eq_true mem) upd_same
          · exact iteF ⟨_, _, _, _, rfl, s35, nxt (by unfold barAt; rw [hrow]; dsimp only; rw [if_neg c2, if_neg (fun z => c1 (by rw [List.length_map, z.1]; rfl))])⟩
    · rintro σ H2 ⟨x1, x2, x3, x4, rfl, s2, ih⟩
      rw [List.length_map, la, lu_] at ih
      exact (q _ s2).1 (first_none ih)
theorem has_tightF {g : Addr} (D : IsDef K mg "tightest_tie" s_tightest_tie) (B : Blt mg) (T : STxt K mg CS) (MN : HasM P w K mg base CS 1 "many_not_out" ["self", "place"] (spMno CS)) (bm : BMeth K CS "many_not_out" g) : Has P w K mg base 3 "tightest_tie" ["said"] (spTightF CS) := by
  refine has_of D scTight (fun _ _ _ _ _ _ us hl => match us, hl with | [_], _ => rfl) (fun vs H Q E h => ?_) (fun f cdv A outer s H vs Q E hr h => ?_)
  · obtain ⟨s, n, I, U, rfl, _⟩ := h
    rfl
  · obtain ⟨sa, n, I, U, rfl, hs, ok, n12, ⟨p0, p00, p01, pne⟩, q⟩ := h
    have F := fn_of_meth MN bm
    refine ⟨_, pss_cons (ps_setLc (i := 1) (own := [("place", 3), ("others", 4)]) (g := gTup K 2 (gCons (gName 3) (gCons (gName 4) gNil))) (tt := fun σ H Q => tVar 4 σ H fun x H' => ∃ k, TruV K x H' k ∧ Q k H') (by rfl) scTight.nd rfl rfl (sw_true rfl rfl rfl (by decide +kernel)) (pi_enum (by rfl) B.enumerate (pa_cons (pe_fld (pv 0) rfl) pa_nil)) (blkOk_by (N := nTight) (sc := defScope s_tightest_tie) (by decide +kernel))
          (fun _ _ _ _ _ => by exact (pg_tup rfl (pgs_cons (by exact (pg_name (i := 3) scTight.nd rfl (.inl rfl))) (pgs_cons (by exact (pg_name (i := 4) scTight.nd rfl (.inl rfl))) pgs_nil)))) (fun _ _ _ _ _ => pts_one (pt_truth (pv 4) (by intro _; rfl))) (fun _ _ _ _ _ => pv 3))
      (pss_cons (ps_set (i := 2) scTight.nd rfl (.inl rfl) (pe_callBK (cr_minKey rfl F hr) (by rfl) B.min (by decide +kernel) (pa_cons (pv 1) pa_nil) (pk_cons (pe_bound (pv 0) T.cl bm) pk_nil)))
      (pss_one (ps_ret (pe_tup (pa_cons (pv 2) (pa_cons (pe_callBK (cr_minKey rfl F hr) (by rfl) B.min (by decide +kernel) (pa_cons (pe_ix (r := rIxL K) ix_list (pe_fld (pv 0) rfl) (pv 2) (fun _ _ => rfl)) pa_nil) (pk_cons (pe_bound (pv 0) T.cl bm) pk_nil)) pa_nil)))))), ?_⟩
    obtain ⟨dx, li, lu, ha, hI, ⟨as, eU, oU⟩⟩ := id hs
    have la := oU.length
    have lu_ := ok.lu
    refine ⟨_, rfl, sa, CS, dx, _, _, rfl, ha, T.cl, T.nU, look_sU li lu, lu, _, rfl, SqL.of eU, fun D nD => ?_⟩
    have lD : lu ≠ D := ne_of_none eU nD
    refine lc_it (walk_enum (K := K) (a := lu) (xs := as.map V.ref)) (g := gTup K 2 (gCons (gName 3) (gCons (gName 4) gNil))) (tt := fun σ H Q => tVar 4 σ H fun x H' => ∃ k, TruV K x H' k ∧ Q k H') (te := tVar 3) (vs := [3, 4]) (σ := L2.start nTight [V.ref sa]) (fun i H2 => Kp D H H2 ∧ OrdAt H2 D (((upTo n).take i).filter fun p => !(row U p).isEmpty)) ⟨Kp.put _ _ _, upd_same⟩ (fun i H2 _ ⟨k, _⟩ => SqL.of (k _ _ lD eU)) ?_ ?_
    · rintro i v H2 H3 hi ⟨k2, eD⟩ ⟨T_, x, y, rfl, nT, rfl, ex, ey⟩
      cases ex
      have s2 : Same H H2 := fun c o e => k2 c o (ne_of_none e nD) e
      obtain ⟨r, rfl, or_⟩ := ll_enum (l := lu) (oU.same s2) ey
      rw [List.length_map] at hi
      have st := same_new (o := .tup [.int (i : Nat), .ref r]) nT
      have or3 := or_.same st
      have eD3 := eD.same st
      have k3 : Kp D H (upd H2 T_ (.tup [.int (i : Nat), .ref r])) := k2.trans (Same.kp st D)
      refine ⟨T_, _, rfl, SqT.of upd_same, rfl, _, _, rfl, _, _, rfl, rfl, rfl, ?_⟩
      generalize upd H2 T_ (.tup [.int (i : Nat), .ref r]) = H3 at or3 eD3 k3
      have tk : ((upTo n).take (i + 1)).filter (fun p => !(row U p).isEmpty) = ((upTo n).take i).filter (fun p => !(row U p).isEmpty) ++ [(i : Int)].filter (fun p => !(row U p).isEmpty) := by
        rw [List.take_succ, List.filter_append]
        congr 2
        unfold upTo
        rw [List.getElem?_map, List.getElem?_range (by omega)]
        rfl
      have lf := List.length_filter_le (fun p => !(row U p).isEmpty) ((upTo n).take i)
      rw [List.length_take] at lf
      refine ⟨_, rfl, _, .inl ⟨_, or3.sq, rfl⟩, ?_⟩
      rw [tk]
      cases hrow : row U (i : Int) with
      | nil =>
        refine iteF ⟨k3, ?_⟩
        rw [List.filter_cons, if_neg (by rw [hrow]; exact Bool.false_ne_true), List.filter_nil, List.append_nil]
        exact eD3
      | cons x0 xs0 =>
        refine iteT ⟨_, rfl, _, eD3, ?_, k3.trans (Kp.put _ _ _), ?_⟩
        · rw [List.length_map]
          exact small1000 (by omega)
        · show upd _ _ _ _ = _
          rw [upd_same, List.filter_cons, if_pos (by rw [hrow]; rfl), List.filter_nil, List.map_append]
          rfl
    · rintro H2 ⟨k2, eD⟩
      have s2 : Same H H2 := fun c o e => k2 c o (ne_of_none e nD) e
      have e0 : (upTo n).take (as.map V.ref).length = upTo n := by rw [List.length_map, la, lu_, List.take_of_length_le (by rw [upTo_len]; exact Nat.le_refl _)]
      rw [e0] at eD
      have mem : ∀ z ∈ (upTo n).filter fun p => !(row U p).isEmpty, 0 ≤ z ∧ z < n ∧ row U z ≠ [] := fun z hz => by
        obtain ⟨h1, h2⟩ := List.mem_filter.mp hz
        have := upTo_mem.mp h1
        refine ⟨this.1, this.2, fun e => ?_⟩
        rw [e] at h2
        cases h2
      have ne : (upTo n).filter (fun p => !(row U p).isEmpty) ≠ [] := fun e => by
        have : p0 ∈ (upTo n).filter fun p => !(row U p).isEmpty := List.mem_filter.mpr ⟨upTo_mem.mpr ⟨p00, p01⟩, by
          cases h : row U p0 with
          | nil => exact absurd h pne
          | cons _ _ => rfl⟩
        rw [e] at this
        cases this
      refine ⟨_, rfl, _, rfl, sa, dx, _, rfl, s2 _ _ ha, look_sM li lu, fun b1 nb1 => ?_⟩
      have sb := same_new (o := .met g sa) nb1
      refine ⟨D, sa, b1, _, mno I U, rfl, rfl, sb _ _ eD, upd_same, ne, fun z hz H3 R s3 fin => ?_, fun H3 s3 => ?_⟩
      · obtain ⟨z0, z1, _⟩ := mem z hz
        exact ⟨sa, n, I, U, z, rfl, ((hs.same s2).same sb).same s3, ok, z0, z1, fin _ (Same.refl _)⟩
      · have hm := minBy_mem (key := mno I U) ne
        generalize hone : minBy (mno I U) ((upTo n).filter fun p => !(row U p).isEmpty) = one at hm
        obtain ⟨o0, o1, one_⟩ := mem one hm
        have s23 := (s2.trans sb).trans s3
        obtain ⟨xs3, r3, e3, _, t3, o3⟩ := (LLAt.same ⟨as, eU, oU⟩ s23).at_ (L := U) o0 (by rw [ok.lu]; exact o1)
        refine ⟨_, rfl, _, rfl, sa, CS, dx, _, _, rfl, s23 _ _ ha, T.cl, T.nU, look_sU li lu, _, rfl, lu, _, _, _, rfl, rfl, SqL.of e3, t3, _, rfl, sa, dx, _, rfl, s23 _ _ ha, look_sM li lu, fun b2 nb2 => ?_⟩
        have sb2 := same_new (o := .met g sa) nb2
        refine ⟨r3, sa, b2, _, mno I U, rfl, rfl, sb2 _ _ o3, upd_same, one_, fun z hz H4 R s4 fin => ?_, fun H4 s4 => ?_⟩
        · obtain ⟨z0, z1, _⟩ := ok.ru one z o0 o1 hz
          exact ⟨sa, n, I, U, z, rfl, ((hs.same s23).same sb2).same s4, ok, z0, z1, fin _ (Same.refl _)⟩
        · have hm2 := minBy_mem (key := mno I U) one_
          generalize hx2 : minBy (mno I U) (row U one) = x at hm2
          refine ⟨by show 2 ≤ sizeLine; decide, fun t nt => ?_⟩
          exact q _ t one x (((s23.trans sb2).trans s4).trans (same_new nt)) (by unfold tightF; rw [hone, hx2]) o0 o1 hm2 upd_same
end
end DR

set_option Elab.async false
set_option linter.all false
set_option maxRecDepth 100000
set_option maxHeartbeats 4000000
namespace DR
open PySem PySem.Spec PyProof.Rows L2
/-! #### one tree alone is told -/
def nodeF (n : Nat) : Nat → List (List Int) → List (List Int) → Tr
  | 0, I, U => (leafF n I U).getD .odd
  | k + 1, I, U => match leafF n I U with
    | some x => x
    | none => .tie (min ((barF n I U).getD (tightF n I U)).1 ((barF n I U).getD (tightF n I U)).2) (max ((barF n I U).getD (tightF n I U)).1 ((barF n I U).getD (tightF n I U)).2)
        (nodeF n k (inOf I (min ((barF n I U).getD (tightF n I U)).1 ((barF n I U).getD (tightF n I U)).2) (max ((barF n I U).getD (tightF n I U)).1 ((barF n I U).getD (tightF n I U)).2)) (outOf U (min ((barF n I U).getD (tightF n I U)).1 ((barF n I U).getD (tightF n I U)).2) (max ((barF n I U).getD (tightF n I U)).1 ((barF n I U).getD (tightF n I U)).2)))
        (nodeF n k I (outOf U (min ((barF n I U).getD (tightF n I U)).1 ((barF n I U).getD (tightF n I U)).2) (max ((barF n I U).getD (tightF n I U)).1 ((barF n I U).getD (tightF n I U)).2)))
def treeF (n : Nat) (ps : List (Int × Int)) : Tr := nodeF n 72 (List.replicate n []) (tiedRows n ps)
theorem leafF_deep {n : Nat} {I U : List (List Int)} {x : Tr} (h : leafF n I U = some x) : x.deep = 0 := by
  unfold leafF at h
  cases e : (upTo n).findSome? (leaf1 I U) with
  | some y =>
    rw [e] at h
    obtain rfl := Option.some.inj h
    obtain ⟨p, _, hp⟩ := List.exists_of_findSome?_eq_some e
    unfold leaf1 at hp
    split at hp
    · obtain rfl := Option.some.inj hp
      rfl
    · split at hp
      · obtain rfl := Option.some.inj hp
        rfl
      · cases hp
  | none =>
    rw [e] at h
    obtain ⟨p, _, hp⟩ := List.exists_of_findSome?_eq_some h
    unfold leaf2 at hp
    split at hp
    · obtain rfl := Option.some.inj hp
      rfl
    · cases hp
theorem nodeF_leaf {n k : Nat} {I U : List (List Int)} {x : Tr} (h : leafF n I U = some x) : nodeF n k I U = x := by
  cases k with
  | zero =>
    show (leafF n I U).getD .odd = x
    rw [h]
    rfl
  | succ k =>
    unfold nodeF
    rw [h]
theorem nodeF_tie {n k : Nat} {I U : List (List Int)} {p x a b : Int} (h : leafF n I U = none) (e : (barF n I U).getD (tightF n I U) = (p, x)) (ea : min p x = a) (eb : max p x = b) : nodeF n (k + 1) I U = .tie a b (nodeF n k (inOf I a b) (outOf U a b)) (nodeF n k I (outOf U a b)) := by
  conv => lhs; unfold nodeF
  rw [h, e]
  dsimp only
  rw [ea, eb]
theorem nodeF_deep (n : Nat) : ∀ (k : Nat) (I U : List (List Int)), (nodeF n k I U).deep ≤ k
  | 0, I, U => by
    show ((leafF n I U).getD .odd).deep ≤ 0
    cases e : leafF n I U with
    | none => exact Nat.le_refl _
    | some x => exact Nat.le_of_eq (leafF_deep e)
  | k + 1, I, U => by
    cases e : leafF n I U with
    | some x =>
      rw [nodeF_leaf e, leafF_deep e]
      omega
    | none =>
      rw [nodeF_tie e (p := ((barF n I U).getD (tightF n I U)).1) (x := ((barF n I U).getD (tightF n I U)).2) rfl rfl rfl]
      have h1 := nodeF_deep n k
      show max (nodeF n k _ _).deep (nodeF n k _ _).deep + 1 ≤ k + 1
      have a := h1 (inOf I (min ((barF n I U).getD (tightF n I U)).1 ((barF n I U).getD (tightF n I U)).2) (max ((barF n I U).getD (tightF n I U)).1 ((barF n I U).getD (tightF n I U)).2)) (outOf U (min ((barF n I U).getD (tightF n I U)).1 ((barF n I U).getD (tightF n I U)).2) (max ((barF n I U).getD (tightF n I U)).1 ((barF n I U).getD (tightF n I U)).2))
      have b := h1 I (outOf U (min ((barF n I U).getD (tightF n I U)).1 ((barF n I U).getD (tightF n I U)).2) (max ((barF n I U).getD (tightF n I U)).1 ((barF n I U).getD (tightF n I U)).2))
      omega
section
variable {P : Program} {w : World} {K : PySem.W.Frag} {mg : Str → Option Value} {base : Heap} {C CS : Addr}
def spNodeF (CS : Addr) (k : Nat) : Sp := fun vs H Q _ => ∃ (s : Addr) (n : Nat) (I U : List (List Int)), vs = [.ref s] ∧ SaidAt CS H s I U ∧ SaidOk n I U ∧ 1 ≤ n ∧ n ≤ 12 ∧ totU n U ≤ 2 * k ∧
  ∀ H' t, Same H H' → TrF H H' t (nodeF n k I U) → Q (.ref t) H'
theorem node0F (D : IsDef K mg "node_of" s_node_of) (LF : Has P w K mg base 2 "leaf_of" ["said"] (spLeafF CS)) : Has P w K mg base 5 "node_of" ["said"] (spNodeF CS 0) := by
  refine has_of D scNode (fun _ _ _ _ _ _ us hl => match us, hl with | [_], _ => rfl) (fun vs H Q E h => ?_) (fun f cdv A outer s H vs Q E hr h => ?_)
  · obtain ⟨s, n, I, U, rfl, _⟩ := h
    rfl
  · obtain ⟨sa, n, I, U, rfl, hs, ok, n1, n12, tot, q⟩ := h
    refine ⟨_, pss_cons (ps_set (i := 1) scNode.nd rfl (.inl rfl) (pe_has LF hr (by decide) (by rfl) (pa_cons (pv 0) pa_nil)))
      (pss_cons (ps_if (pt_cmp (pc_notN (pv 1)) rfl) (pss_one (ps_ret (pv 1))) pss_nil) pss_never), ?_⟩
    refine ⟨_, rfl, sa, n, I, U, rfl, hs, ok, n12, fun H1 s1 => ⟨fun nl _ => absurd nl (no_unsaid ok n1 tot), fun t x lx lf => ?_⟩⟩
    refine ⟨_, rfl, _, rfl, iteT ⟨_, rfl, q H1 t s1 (by rw [nodeF_leaf lx]; exact lf)⟩⟩
theorem node1F {k : Nat} (D : IsDef K mg "node_of" s_node_of) (B : Blt mg) (LF : Has P w K mg base 2 "leaf_of" ["said"] (spLeafF CS)) (BT : Has P w K mg base 2 "barred_tie" ["said"] (spBarredF CS)) (TT : Has P w K mg base 3 "tightest_tie" ["said"] (spTightF CS))
    (SO : Has P w K mg base 3 "said_out" ["said", "tie"] (spSOut CS)) (SN : Has P w K mg base 4 "said_in" ["said", "tie"] (spSIn CS)) (ND : Has P w K mg base (k + 5) "node_of" ["said"] (spNodeF CS k)) : Has P w K mg base (k + 1 + 5) "node_of" ["said"] (spNodeF CS (k + 1)) := by
  refine has_of D scNode (fun _ _ _ _ _ _ us hl => match us, hl with | [_], _ => rfl) (fun vs H Q E h => ?_) (fun f cdv A outer s H vs Q E hr h => ?_)
  · obtain ⟨s, n, I, U, rfl, _⟩ := h
    rfl
  · obtain ⟨sa, n, I, U, rfl, hs, ok, n1, n12, tot, q⟩ := h
    refine ⟨_, pss_cons (ps_set (i := 1) scNode.nd rfl (.inl rfl) (pe_has LF hr (by omega) (by rfl) (pa_cons (pv 0) pa_nil)))
      (pss_cons (ps_if (pt_cmp (pc_notN (pv 1)) rfl) (pss_one (ps_ret (pv 1))) pss_nil)
      (C8.pss_cut (ps_set (i := 2) scNode.nd rfl (.inl rfl) (pe_orT (pe_has BT hr (by omega) (by rfl) (pa_cons (pv 0) pa_nil)) (pe_one (pe_has TT hr (by omega) (by rfl) (pa_cons (pv 0) pa_nil)))))
      (pss_cons (ps_set (i := 3) scNode.nd rfl (.inl rfl) (pe_tup (pa_cons (pe_callB (cr_minT rfl) (by rfl) B.min (by decide +kernel) (pa_cons (pv 2) pa_nil)) (pa_cons (pe_callB (cr_maxT rfl) (by rfl) B.max (by decide +kernel) (pa_cons (pv 2) pa_nil)) pa_nil))))
      (pss_one (ps_ret (pe_tup (pa_cons pe_str (pa_cons (pv 3) (pa_cons (pe_has ND hr (by omega) (by rfl) (pa_cons (pe_has SN hr (by omega) (by rfl) (pa_cons (pv 0) (pa_cons (pv 3) pa_nil))) pa_nil)) (pa_cons (pe_has ND hr (by omega) (by rfl) (pa_cons (pe_has SO hr (by omega) (by rfl) (pa_cons (pv 0) (pa_cons (pv 3) pa_nil))) pa_nil)) pa_nil)))))))))), ?_⟩
    refine ⟨_, rfl, sa, n, I, U, rfl, hs, ok, n12, fun H1 s1 => ⟨fun nl lno => ?_, fun t x lx lf => ?_⟩⟩
    · obtain ⟨p0, p00, p01, pne⟩ := unsaid_left ok n1 nl
      refine ⟨_, rfl, _, rfl, iteF ?_⟩
      refine ⟨fun σ H2 => ∃ (t : Addr) (p x : Int), σ = [some (.ref sa), some .non, some (.ref t), none] ∧ Same H H2 ∧ 0 ≤ p ∧ p < n ∧ x ∈ row U p ∧ TupAt H2 t [p, x] ∧ (barF n I U).getD (tightF n I U) = (p, x), ?_, ?_⟩
      · refine ⟨_, rfl, sa, n, I, U, rfl, hs.same s1, ok, n12, fun H2 s2 => ⟨fun bno => ?_, fun t p x be h0 h1 hx ht => ?_⟩⟩
        · refine ⟨false, rfl, iteF ?_⟩
          refine ⟨_, rfl, sa, n, I, U, rfl, (hs.same s1).same s2, ok, n12, ⟨p0, p00, p01, pne⟩, fun H3 t p x s3 te h0 h1 hx ht => ?_⟩
          exact ⟨t, p, x, rfl, (s1.trans s2).trans s3, h0, h1, hx, ht, by rw [bno]; exact te⟩
        · refine ⟨true, .inr (.inl ⟨_, SqT.of ht, rfl⟩), iteT ?_⟩
          exact ⟨t, p, x, rfl, s1.trans s2, h0, h1, hx, ht, by rw [be]; rfl⟩
      · rintro σ H2 ⟨t, p, x, rfl, s2, h0, h1, hx, ht, pe⟩
        have ht' : H2 t = some (.tup [.int p, .int x]) := ht
        obtain ⟨x0, x1, xp⟩ := ok.ru p x h0 h1 hx
        refine ⟨_, rfl, t, p, x, rfl, ht', _, rfl, t, p, x, rfl, ht', by show 2 ≤ sizeLine; decide, fun r nr => ?_⟩
        have key : ∃ a b : Int, (if x < p then x else p) = a ∧ (if x > p then x else p) = b ∧ min p x = a ∧ max p x = b ∧ 0 ≤ a ∧ a < b ∧ b < n ∧ b ∈ row U a := by
          by_cases c : x < p
          · exact ⟨x, p, if_pos c, if_neg (by omega), by omega, by omega, x0, c, h1, ok.su p x h0 h1 hx⟩
          · exact ⟨p, x, if_neg c, if_pos (by omega), by omega, by omega, h0, by omega, x1, hx⟩
        obtain ⟨a, b, ea, eb, ma, mb, a0, ab, bn, hb⟩ := key
        rw [ea, eb]
        have s3 := same_new (o := .tup [.int a, .int b]) nr
        have hr3 : TupAt (upd H2 r (.tup [.int a, .int b])) r [a, b] := upd_same
        generalize upd H2 r (.tup [.int a, .int b]) = H3 at s3 hr3
        have s23 := s2.trans s3
        have a1 : a < n := by omega
        have less := tot_out ok a0 a1 hb
        refine ⟨_, rfl, _, rfl, _, rfl, sa, r, n, I, U, a, b, rfl, hs.same s23, ok, n12, hr3, a0, a1, hb, fun H4 c1 s4 hc1 => ?_⟩
        refine ⟨c1, n, _, _, rfl, hc1, ok.inn a0 a1 hb, n1, n12, by omega, fun H5 t1 s5 ht1 => ?_⟩
        have s25 := (s23.trans s4).trans s5
        have hr5 := TupAt.same (TupAt.same hr3 s4) s5
        refine ⟨_, rfl, _, rfl, sa, r, n, I, U, a, b, rfl, hs.same s25, ok, n12, hr5, a0, a1, hb, fun H6 c2 s6 hc2 => ?_⟩
        refine ⟨c2, n, _, _, rfl, hc2, ok.out a0 a1 hb, n1, n12, by omega, fun H7 t2 s7 ht2 => ?_⟩
        refine ⟨by show 4 ≤ sizeLine; decide, fun t nt => ?_⟩
        have s8 := same_new (o := .tup [.str "tie", .ref r, .ref t1, .ref t2]) nt
        refine q _ t (((s25.trans s6).trans s7).trans s8) ?_
        rw [nodeF_tie lno pe ma mb]
        exact ⟨r, t1, t2, upd_same, TupAt.same (TupAt.same (TupAt.same hr5 s6) s7) s8, (((ht1.same s6).same s7).same s8).base (s23.trans s4), (ht2.same s8).base (s25.trans s6)⟩
    · exact ⟨_, rfl, _, rfl, iteT ⟨_, rfl, q H1 t s1 (by rw [nodeF_leaf lx]; exact lf)⟩⟩
theorem node_allF (D : IsDef K mg "node_of" s_node_of) (B : Blt mg) (LF : Has P w K mg base 2 "leaf_of" ["said"] (spLeafF CS)) (BT : Has P w K mg base 2 "barred_tie" ["said"] (spBarredF CS)) (TT : Has P w K mg base 3 "tightest_tie" ["said"] (spTightF CS))
    (SO : Has P w K mg base 3 "said_out" ["said", "tie"] (spSOut CS)) (SN : Has P w K mg base 4 "said_in" ["said", "tie"] (spSIn CS)) : ∀ k : Nat, Has P w K mg base (k + 5) "node_of" ["said"] (spNodeF CS k)
  | 0 => node0F D LF
  | k + 1 => node1F D B LF BT TT SO SN (node_allF D B LF BT TT SO SN k)
def spTreeF (C CS : Addr) : Sp := fun vs H Q _ => ∃ (y : Addr) (n : Nat) (ps : List (Int × Int)), vs = [.ref y] ∧ YardAt C H y n ps ∧ Ties n ps ∧ 1 ≤ n ∧ n ≤ 12 ∧ ∀ H' t, Same H H' → TrF H H' t (treeF n ps) → Q (.ref t) H'
theorem has_treeF (D : IsDef K mg "tree_of" s_tree_of) (NS : Has P w K mg base 3 "nothing_said" ["yard"] (spNothing C CS)) (ND : Has P w K mg base (72 + 5) "node_of" ["said"] (spNodeF CS 72)) : Has P w K mg base 78 "tree_of" ["yard"] (spTreeF C CS) := by
  refine has_of D scTree (fun _ _ _ _ _ _ us hl => match us, hl with | [_], _ => rfl) (fun vs H Q E h => ?_) (fun f cdv A outer s H vs Q E hr h => ?_)
  · obtain ⟨y, n, ps, rfl, _⟩ := h
    rfl
  · obtain ⟨y, n, ps, rfl, hy, ti, n1, n12, q⟩ := h
    refine ⟨_, pss_one (ps_ret (pe_has ND hr (by decide) (by rfl) (pa_cons (pe_has NS hr (by decide) (by rfl) (pa_cons (pv 0) pa_nil)) pa_nil))), ?_⟩
    refine ⟨_, rfl, y, n, ps, rfl, hy, n1, by omega, fun H1 r s1 hr1 => ?_⟩
    exact ⟨r, n, _, _, rfl, hr1, said0 ti, n1, n12, tot0 n12 ps, fun H2 t s2 ht => q H2 t (s1.trans s2) (ht.base s1)⟩
end
end DR

set_option Elab.async false
set_option linter.all false
set_option maxRecDepth 100000
set_option maxHeartbeats 4000000
namespace DR
open PySem PySem.Spec PyProof.Rows L2
/-! #### round_of -/
def AnsF (H H' : Hp) (t : Addr) (n : Nat) (ps : List (Int × Int)) : Prop :=
  (n < 3 ∧ ∃ p, H' t = some (.tup [.str "none", .ref p]) ∧ H' p = some (.tup [.str "small"])) ∨
  (3 ≤ n ∧ ∃ r os, leastOf n ps = some os ∧ H r = none ∧ H' t = some (.tup [.str "round", .ref r]) ∧ OrdAt H' r os) ∨
  (3 ≤ n ∧ leastOf n ps = none ∧ ∃ p l js, partingOf n ps = some js ∧ H l = none ∧ H' t = some (.tup [.str "none", .ref p]) ∧ H' p = some (.tup [.str "parted", .ref l]) ∧ OrdAt H' l (ofN js)) ∨
  (3 ≤ n ∧ leastOf n ps = none ∧ partingOf n ps = none ∧ ∃ p c, H' t = some (.tup [.str "none", .ref p]) ∧ H' p = some (.tup [.str "cases", .ref c]) ∧ TrF H H' c (treeF n ps))
section
variable {P : Program} {w : World} {K : PySem.W.Frag} {mg : Str → Option Value} {base : Heap} {C CS : Addr}
def spRoundF (C : Addr) : Sp := fun vs H Q _ => ∃ (y : Addr) (n : Nat) (ps : List (Int × Int)), vs = [.ref y] ∧ YardAt C H y n ps ∧ Ties n ps ∧ 1 ≤ n ∧ n ≤ 12 ∧
  ∀ H' t, Same H H' → H t = none → AnsF H H' t n ps → Q (.ref t) H'
abbrev nRoundOf : List Str := ["yard", "order", "places"]
theorem scRoundOf : FnScope nRoundOf ["yard"] (defScope s_round_of) := ⟨rfl, rfl, rfl, by decide +kernel, rfl, by decide +kernel, by decide +kernel⟩
theorem has_roundF (D : IsDef K mg "round_of" s_round_of) (B : Blt mg) (T : YTxt K mg C) (M : HasM P w K mg base C 1 "many" ["self"] (spMany C)) (CS_ : Has P w K mg base 2 "check_searched" ["yard"] (spSearched C)) (LR : Has P w K mg base 15 "least_round" ["yard"] (spLeastR C))
    (PA : Has P w K mg base 4 "parting" ["yard"] (spParting C)) (TR : Has P w K mg base 78 "tree_of" ["yard"] (spTreeF C CS)) : Has P w K mg base 79 "round_of" ["yard"] (spRoundF C) := by
  refine has_of D scRoundOf (fun _ _ _ _ _ _ us hl => match us, hl with | [_], _ => rfl) (fun vs H Q E h => ?_) (fun f cdv A outer s H vs Q E hr h => ?_)
  · obtain ⟨y, n, ps, rfl, _⟩ := h
    rfl
  · obtain ⟨y, n, ps, rfl, hy, ti, n1, n12, q⟩ := h
    refine ⟨_, pss_cons (ps_expr (pe_has CS_ hr (by decide) (by rfl) (pa_cons (pv 0) pa_nil)))
      (pss_cons (ps_if (pt_cmpR op_lt (pe_hasM0 (pv 0) T.cl M hr (by decide)) pe_int (nomark _)) (pss_one (ps_ret (pe_tup (pa_cons pe_str (pa_cons (pe_tup (pa_cons pe_str pa_nil)) pa_nil))))) pss_nil)
      (pss_cons (ps_set (i := 1) scRoundOf.nd rfl (.inl rfl) (pe_has LR hr (by decide) (by rfl) (pa_cons (pv 0) pa_nil)))
      (pss_cons (ps_if (pt_cmp (pc_notN (pv 1)) rfl) (pss_one (ps_ret (pe_tup (pa_cons pe_str (pa_cons (pv 1) pa_nil))))) pss_nil)
      (pss_cons (ps_set (i := 2) scRoundOf.nd rfl (.inl rfl) (pe_has PA hr (by decide) (by rfl) (pa_cons (pv 0) pa_nil)))
      (pss_cons (ps_if (pt_cmp (pc_notN (pv 2)) rfl) (pss_one (ps_ret (pe_tup (pa_cons pe_str (pa_cons (pe_tup (pa_cons pe_str (pa_cons (pv 2) pa_nil))) pa_nil))))) pss_nil)
      (pss_one (ps_ret (pe_tup (pa_cons pe_str (pa_cons (pe_tup (pa_cons pe_str (pa_cons (pe_has TR hr (by decide) (by rfl) (pa_cons (pv 0) pa_nil)) pa_nil))) pa_nil)))))))))), ?_⟩
    refine ⟨_, rfl, y, n, ps, rfl, hy, n12, ?_⟩
    obtain ⟨dx, l, tdd, dg, h1, h2, h3, h4⟩ := id hy
    refine ⟨_, rfl, y, dx, _, rfl, h1, look_no n l tdd dg (by decide +kernel) (by decide +kernel) (by decide +kernel) (by decide +kernel), y, n, ps, rfl, hy, _, _, rfl, rfl, _, rfl, ite2 (fun c => ?_) (fun c => ?_)⟩
    · have c := of_decide_eq_true c
      refine ⟨by show 1 ≤ sizeLine; decide, fun p np => ?_⟩
      have s1 := same_new (o := .tup [.str "small"]) np
      refine ⟨by show 2 ≤ sizeLine; decide, fun t nt => ?_⟩
      have s2 := same_new (o := .tup [.str "none", .ref p]) nt
      exact q _ t (s1.trans s2) (s1.free nt) (.inl ⟨by omega, p, upd_same, s2 _ _ upd_same⟩)
    · have n3 : 3 ≤ n := by
        have : ¬ (n : Int) < 3 := fun z => c (decide_eq_true z)
        omega
      refine ⟨_, rfl, y, n, ps, rfl, hy, n1, n12, fun H1 s1 => ⟨fun no => ?_, fun r os eq nr hr1 => ?_⟩⟩
      · refine ⟨_, rfl, _, rfl, iteF ?_⟩
        refine ⟨_, rfl, y, n, ps, rfl, hy.same s1, n12, fun H2 s2 => ⟨fun no2 => ?_, fun r js eq nr hr2 => ?_⟩⟩
        · refine ⟨_, rfl, _, rfl, iteF ?_⟩
          refine ⟨_, rfl, y, n, ps, rfl, (hy.same s1).same s2, ti, n1, n12, fun H3 c s3 hc => ?_⟩
          have s13 := (s1.trans s2).trans s3
          refine ⟨by show 2 ≤ sizeLine; decide, fun p np => ?_⟩
          have s4 := same_new (o := .tup [.str "cases", .ref c]) np
          refine ⟨by show 2 ≤ sizeLine; decide, fun t nt => ?_⟩
          have s5 := same_new (o := .tup [.str "none", .ref p]) nt
          exact q _ t ((s13.trans s4).trans s5) ((s13.trans s4).free nt) (.inr (.inr (.inr ⟨n3, no, no2, p, c, upd_same, s5 _ _ upd_same, ((hc.same s4).same s5).base (s1.trans s2)⟩)))
        · refine ⟨_, rfl, _, rfl, iteT ?_⟩
          refine ⟨_, rfl, by show 2 ≤ sizeLine; decide, fun p np => ?_⟩
          have s4 := same_new (o := .tup [.str "parted", .ref r]) np
          refine ⟨by show 2 ≤ sizeLine; decide, fun t nt => ?_⟩
          have s5 := same_new (o := .tup [.str "none", .ref p]) nt
          exact q _ t (((s1.trans s2).trans s4).trans s5) (((s1.trans s2).trans s4).free nt) (.inr (.inr (.inl ⟨n3, no, p, r, js, eq, s1.free nr, upd_same, s5 _ _ upd_same, (hr2.same s4).same s5⟩)))
      · refine ⟨_, rfl, _, rfl, iteT ⟨_, rfl, by show 2 ≤ sizeLine; decide, fun t nt => ?_⟩⟩
        have s2 := same_new (o := .tup [.str "round", .ref r]) nt
        exact q _ t (s1.trans s2) (s1.free nt) (.inr (.inl ⟨n3, r, os, eq, nr, upd_same, hr1.same s2⟩))
end
end DR

set_option Elab.async false
set_option linter.all false
set_option maxRecDepth 100000
set_option maxHeartbeats 4000000
/-! ### a round of the closed yard is led back -/
namespace DR
open PySem PySem.Spec PyProof.Rows L2
theorem addGo_step {n : Nat} : ∀ (m : Nat) (ks : List (Int × Int)) (j : Nat) (p : Int × Int), (addGo n m ks)[j]? = some p → stepOf n (ks ++ (addGo n m ks).take j) = some p
  | 0, ks, j, p, h => by simp [addGo] at h
  | m + 1, ks, j, p, h => by
    cases hs : stepOf n ks with
    | none =>
      rw [addGo_none hs] at h
      simp at h
    | some q =>
      rw [addGo_some hs] at h ⊢
      cases j with
      | zero =>
        simp at h
        subst h
        rw [List.take_zero, List.append_nil]
        exact hs
      | succ j =>
        have ih := addGo_step m (ks ++ [q]) j p (by simpa using h)
        rw [List.take_succ_cons, ← List.singleton_append, ← List.append_assoc]
        exact ih
theorem getD_at {os : List Int} {i : Nat} (h : i < os.length) : os.getD i 0 = os[i] := by
  rw [List.getD_eq_getElem?_getD, List.getElem?_eq_getElem h]
  rfl
/-- the next one's number -/
def nextOf (n i : Nat) : Nat := if i + 1 < n then i + 1 else 0
theorem next_at {os : List Int} {i : Nat} (h : i < os.length) : ∃ hb : nextOf os.length i < os.length, (os ++ os).getD (i + 1) 0 = os[nextOf os.length i] := by
  unfold nextOf
  by_cases c : i + 1 < os.length
  · simp only [c, if_true]
    refine ⟨trivial, ?_⟩
    rw [List.getD_eq_getElem?_getD, List.getElem?_append_left c, List.getElem?_eq_getElem c]
    rfl
  · simp only [c, if_false]
    refine ⟨by omega, ?_⟩
    rw [List.getD_eq_getElem?_getD, List.getElem?_append_right (by omega), show i + 1 - os.length = 0 by omega, List.getElem?_eq_getElem (by omega)]
    rfl
theorem tied_snoc (ps : List (Int × Int)) (p : Int × Int) (x y : Int) : tied (ps ++ [p]) x y = (tied ps x y || (decide ((x, y) = p) || decide ((y, x) = p))) := by
  unfold tied
  rw [Bool.eq_iff_iff]
  simp only [List.mem_append, List.mem_singleton, Bool.or_eq_true, decide_eq_true_eq]
  constructor
  · rintro ((h | h) | (h | h))
    · exact .inl (.inl h)
    · exact .inr (.inl h)
    · exact .inl (.inr h)
    · exact .inr (.inr h)
  · rintro ((h | h) | (h | h))
    · exact .inl (.inl h)
    · exact .inr (.inl h)
    · exact .inl (.inr h)
    · exact .inr (.inr h)
/-- where the order goes by the last pair, and there alone -/
theorem gap_pair {ps : List (Int × Int)} {p : Int × Int} {os : List Int} (h : gapsOf (ps ++ [p]) os = []) {i : Nat} (hi : i < os.length) (g : gapAt ps os i = true) :
    (os.getD i 0 = p.1 ∧ (os ++ os).getD (i + 1) 0 = p.2) ∨ (os.getD i 0 = p.2 ∧ (os ++ os).getD (i + 1) 0 = p.1) := by
  have h1 : gapAt (ps ++ [p]) os i = false := by
    cases e : gapAt (ps ++ [p]) os i with
    | false => rfl
    | true =>
      have : i ∈ gapsOf (ps ++ [p]) os := List.mem_filter.mpr ⟨List.mem_range.mpr hi, e⟩
      rw [h] at this
      cases this
  unfold gapAt at h1 g
  rw [tied_snoc] at h1
  have g : tied ps (os.getD i 0) ((os ++ os).getD (i + 1) 0) = false := by simpa using g
  rw [g] at h1
  simp only [Bool.false_or, Bool.not_eq_false', Bool.or_eq_true, decide_eq_true_eq] at h1
  rcases h1 with h1 | h1
  · exact .inl ⟨by rw [← h1], by rw [← h1]⟩
  · exact .inr ⟨by rw [← h1], by rw [← h1]⟩
theorem gap_one {ps : List (Int × Int)} {p : Int × Int} {os : List Int} (lt : p.1 < p.2) (nd : os.Nodup) (n3 : 3 ≤ os.length) (h : gapsOf (ps ++ [p]) os = []) {i j : Nat} (hij : i < j) (hj : j < os.length) (gi : gapAt ps os i = true) (gj : gapAt ps os j = true) : False := by
  have hi : i < os.length := by omega
  obtain ⟨b1, e1⟩ := next_at hi
  obtain ⟨b2, e2⟩ := next_at hj
  have a1 := gap_pair h hi gi
  have a2 := gap_pair h hj gj
  rw [getD_at hi, e1] at a1
  rw [getD_at hj, e2] at a2
  have ne : os[i] ≠ os[j] := fun e => by
    have := (List.getElem_inj nd).mp e
    omega
  have key : os[nextOf os.length i] = os[j] ∧ os[nextOf os.length j] = os[i] := by
    rcases a1 with ⟨x1, x2⟩ | ⟨x1, x2⟩ <;> rcases a2 with ⟨y1, y2⟩ | ⟨y1, y2⟩
    · exact absurd (x1.trans y1.symm) ne
    · exact ⟨x2.trans y1.symm, y2.trans x1.symm⟩
    · exact ⟨x2.trans y1.symm, y2.trans x1.symm⟩
    · exact absurd (x1.trans y1.symm) ne
  have k1 := (List.getElem_inj nd).mp key.1
  have k2 := (List.getElem_inj nd).mp key.2
  unfold nextOf at k1 k2
  rw [if_pos (by omega)] at k1
  by_cases c : j + 1 < os.length
  · rw [if_pos c] at k2
    omega
  · rw [if_neg c] at k2
    omega
theorem gaps_one {ps : List (Int × Int)} {p : Int × Int} {os : List Int} (lt : p.1 < p.2) (nd : os.Nodup) (n3 : 3 ≤ os.length) (h : gapsOf (ps ++ [p]) os = []) : (gapsOf ps os).length ≤ 1 := by
  cases e : gapsOf ps os with
  | nil => simp
  | cons i r =>
    cases r with
    | nil => simp
    | cons j r =>
      exfalso
      have pw : (gapsOf ps os).Pairwise (· < ·) := List.Pairwise.filter _ List.pairwise_lt_range
      have hi : i ∈ gapsOf ps os := by rw [e]; simp
      have hj : j ∈ gapsOf ps os := by rw [e]; simp
      rw [e] at pw
      have hij : i < j := (List.pairwise_cons.mp pw).1 j (by simp)
      obtain ⟨_, gi⟩ := List.mem_filter.mp hi
      obtain ⟨rj, gj⟩ := List.mem_filter.mp hj
      exact gap_one lt nd n3 h hij (List.mem_range.mp rj) gi gj
/-- one step back: no gap, or one that is closed -/
def stepBack (ps : List (Int × Int)) (os : List Int) : Option (List Int) := match gapsOf ps os with
  | [] => none
  | a :: _ => some (turnedOf os a ((leastBack ps os a).getD 0))
/-- what a step back is over -/
def BackOk (ps : List (Int × Int)) (os : List Int) : Prop := gapsOf ps os = [] ∨ ∃ a b r, gapsOf ps os = a :: r ∧ leastBack ps os a = some b
theorem back_ok {n : Nat} {ps : List (Int × Int)} {p : Int × Int} {os : List Int} (ti : Ties n ps) (n3 : 3 ≤ n) (io : IsOrd n os) (hs : stepOf n ps = some p) (h : gapsOf (ps ++ [p]) os = []) :
    BackOk ps os ∧ (stepBack ps os = none → gapsOf ps os = []) ∧ (∀ os', stepBack ps os = some os' → IsOrd n os' ∧ gapsOf ps os' = []) := by
  obtain ⟨hp, hnp, hen⟩ := step_mem hs
  have lt := ((Ties.all n).rng p hp).2.1
  have nd : os.Nodup := io.nodup_iff.mpr (upTo_nodup n)
  have hl := io.len
  have one := gaps_one lt nd (by omega) h
  cases e : gapsOf ps os with
  | nil =>
    refine ⟨.inl e, fun _ => rfl, fun os' h' => ?_⟩
    unfold stepBack at h'
    rw [e] at h'
    cases h'
  | cons a r =>
    have ha : a ∈ gapsOf ps os := by rw [e]; simp
    obtain ⟨ra, ga⟩ := List.mem_filter.mp ha
    have ral := List.mem_range.mp ra
    have hsum : (n : Int) ≤ cnt ps (os.getD a 0) + cnt ps ((os ++ os).getD (a + 1) 0) := by
      have he := of_decide_eq_true hen
      rcases gap_pair h ral ga with ⟨x1, x2⟩ | ⟨x1, x2⟩ <;> rw [x1, x2] <;> omega
    have hne := ore1 ti n3 io (by omega) ga hsum
    cases hb : leastBack ps os a with
    | none => exact absurd hb hne
    | some b =>
      obtain ⟨b1, b2, b3⟩ := lb_ok hb
      obtain ⟨t1, t2⟩ := Bool.and_eq_true_iff.mp b3
      have less := turned_less ps os ral b2 ga t1 t2
      refine ⟨.inr ⟨a, b, r, e, hb⟩, fun h' => ?_, fun os' h' => ?_⟩
      · unfold stepBack at h'
        rw [e] at h'
        cases h'
      · unfold stepBack at h'
        rw [e] at h'
        simp only [hb, Option.getD_some, Option.some.injEq] at h'
        subst h'
        refine ⟨io.perm (turned_perm os a b), ?_⟩
        exact List.eq_nil_of_length_eq_zero (by omega)
def openGo (ps cs : List (Int × Int)) : Nat → List Int → List (List Int)
  | 0, _ => []
  | j + 1, os => match stepBack (ps ++ cs.take j) os with
    | none => openGo ps cs j os
    | some os' => os' :: openGo ps cs j os'
def openedOf (n : Nat) (ps : List (Int × Int)) (os : List Int) : List (List Int) := os :: openGo ps (closedOf n ps) (closedOf n ps).length os
theorem openGo_none {ps cs : List (Int × Int)} {j : Nat} {os : List Int} (h : stepBack (ps ++ cs.take j) os = none) : openGo ps cs (j + 1) os = openGo ps cs j os := by
  conv => lhs; unfold openGo
  rw [h]
theorem openGo_some {ps cs : List (Int × Int)} {j : Nat} {os os' : List Int} (h : stepBack (ps ++ cs.take j) os = some os') : openGo ps cs (j + 1) os = os' :: openGo ps cs j os' := by
  conv => lhs; unfold openGo
  rw [h]
theorem openGo_len {ps cs : List (Int × Int)} : ∀ (j : Nat) (os : List Int), (openGo ps cs j os).length ≤ j
  | 0, _ => Nat.le_refl _
  | j + 1, os => by
    cases h : stepBack (ps ++ cs.take j) os with
    | none =>
      rw [openGo_none h]
      have := openGo_len (ps := ps) (cs := cs) j os
      omega
    | some os' =>
      rw [openGo_some h, List.length_cons]
      have := openGo_len (ps := ps) (cs := cs) j os'
      omega
/-- the pairs ahead, and the next one -/
theorem closed_at {n : Nat} {ps : List (Int × Int)} {j : Nat} (h : j < (closedOf n ps).length) : ∃ p, stepOf n (ps ++ (closedOf n ps).take j) = some p ∧ (closedOf n ps).take (j + 1) = (closedOf n ps).take j ++ [p] := by
  have hp : (closedOf n ps)[j]? = some (closedOf n ps)[j] := List.getElem?_eq_getElem h
  exact ⟨_, addGo_step _ _ _ _ hp, by rw [List.take_succ, hp]; rfl⟩
theorem Ties.closed_take {n : Nat} {ps : List (Int × Int)} (ti : Ties n ps) (j : Nat) : Ties n (ps ++ (closedOf n ps).take j) := ti.closed.sub (List.Sublist.append (List.Sublist.refl _) (List.take_sublist _ _))
/-- the last one of those that are led back is a round -/
theorem openGo_last {n : Nat} {ps : List (Int × Int)} (ti : Ties n ps) (n3 : 3 ≤ n) : ∀ (j : Nat) (os : List Int), j ≤ (closedOf n ps).length → IsOrd n os → gapsOf (ps ++ (closedOf n ps).take j) os = [] →
    ∀ l, (os :: openGo ps (closedOf n ps) j os).getLast? = some l → IsOrd n l ∧ gapsOf ps l = []
  | 0, os, _, io, h, l, e => by
    simp [openGo] at e
    subst e
    rw [List.take_zero, List.append_nil] at h
    exact ⟨io, h⟩
  | j + 1, os, hj, io, h, l, e => by
    obtain ⟨p, hs, tk⟩ := closed_at (n := n) (ps := ps) (j := j) (by omega)
    rw [tk, ← List.append_assoc] at h
    obtain ⟨_, h1, h2⟩ := back_ok (ti.closed_take j) n3 io hs h
    cases hb : stepBack (ps ++ (closedOf n ps).take j) os with
    | none =>
      rw [openGo_none hb] at e
      exact openGo_last ti n3 j os (by omega) io (h1 hb) l e
    | some os' =>
      rw [openGo_some hb] at e
      obtain ⟨io', g'⟩ := h2 os' hb
      rw [List.getLast?_cons_cons] at e
      exact openGo_last ti n3 j os' (by omega) io' g' l e
theorem opened_last {n : Nat} {ps : List (Int × Int)} {os : List Int} (ti : Ties n ps) (n3 : 3 ≤ n) (io : IsOrd n os) (h : gapsOf (ps ++ closedOf n ps) os = []) {l : List Int} (e : (openedOf n ps os).getLast? = some l) : IsOrd n l ∧ gapsOf ps l = [] :=
  openGo_last ti n3 _ os (Nat.le_refl _) io (by rw [List.take_length]; exact h) l e
/-- of all pairs the numbers in turn are a round -/
theorem all_round {n : Nat} {ks : List (Int × Int)} (n3 : 3 ≤ n) (h : leftOf n ks = []) : gapsOf ks (upTo n) = [] := by
  unfold gapsOf
  rw [List.filter_eq_nil_iff]
  intro i hi
  have hi := List.mem_range.mp hi
  rw [upTo_len] at hi
  unfold gapAt
  obtain ⟨b1, e1⟩ := next_at (os := upTo n) (i := i) (by rw [upTo_len]; exact hi)
  rw [getD_at (by rw [upTo_len]; exact hi), e1]
  have u : ∀ (k : Nat) (hk : k < (upTo n).length), (upTo n)[k] = (k : Int) := fun k hk => by simp [upTo]
  rw [u, u]
  have all : ∀ p ∈ pairsOf n, p ∈ ks := fun p hp => by
    by_cases m : p ∈ ks
    · exact m
    · have : p ∈ leftOf n ks := List.mem_filter.mpr ⟨hp, by simp [m]⟩
      rw [h] at this
      cases this
  unfold tied nextOf
  rw [upTo_len]
  by_cases c : i + 1 < n
  · rw [if_pos c]
    have := all ((i : Int), ((i + 1 : Nat) : Int)) (mem_pairsOf.mpr ⟨by omega, by omega, by omega⟩)
    simp only [Bool.not_eq_true, Bool.not_eq_false', Bool.or_eq_true, decide_eq_true_eq]
    exact .inl this
  · rw [if_neg c]
    have := all (((0 : Nat) : Int), (i : Int)) (mem_pairsOf.mpr ⟨by omega, by omega, by omega⟩)
    simp only [Bool.not_eq_true, Bool.not_eq_false', Bool.or_eq_true, decide_eq_true_eq]
    exact .inr this
theorem left_count {n : Nat} {ks : List (Int × Int)} (ti : Ties n ks) : ks.length + (leftOf n ks).length = (pairsOf n).length := by
  have h1 : ((pairsOf n).filter fun p => decide (p ∈ ks)).Perm ks := by
    refine (List.perm_ext_iff_of_nodup ((nodup_pairsOf n).filter _) ti.nd).mpr fun p => ?_
    rw [List.mem_filter]
    constructor
    · rintro ⟨_, h⟩
      exact of_decide_eq_true h
    · intro h
      have r := ti.rng p h
      exact ⟨mem_pairsOf.mpr ⟨r.1, r.2.1, r.2.2⟩, decide_eq_true h⟩
  rw [← h1.length_eq]
  unfold leftOf
  exact filt_split _ _
end DR

set_option Elab.async false
set_option linter.all false
set_option maxRecDepth 100000
set_option maxHeartbeats 4000000
namespace DR
open PySem PySem.Spec PyProof.Rows L2
theorem cut_refs (as : List Addr) (k : Nat) : cutV (as.map V.ref) none (some (k : Int)) = (as.take k).map V.ref := by
  rw [cut_to, ← List.map_take]
section
variable {P : Program} {w : World} {K : PySem.W.Frag} {mg : Str → Option Value} {base : Heap} {C : Addr}
/-! ### the yard with more ties -/
def spTiedToo (C : Addr) : Sp := fun vs H Q _ => ∃ (y l : Addr) (n : Nat) (ps qs : List (Int × Int)), vs = [.ref y, .ref l] ∧ YardAt C H y n ps ∧ PairsAt H l qs ∧ Ties n (ps ++ qs) ∧ 1 ≤ n ∧ n ≤ 30 ∧ ∀ H' z, Same H H' → YardAt C H' z n (ps ++ qs) → Q (.ref z) H'
theorem scTiedToo : FnScope ["yard", "pairs"] ["yard", "pairs"] (defScope s_tied_too) := ⟨rfl, rfl, rfl, by decide +kernel, rfl, by decide +kernel, by decide +kernel⟩
theorem has_tiedtoo (D : IsDef K mg "tied_too" s_tied_too) (B : Blt mg) (T : YTxt K mg C) (I : HasM P w K mg base C 2 "__init__" ["self", "many", "ties"] (spInit C)) (mk : PySem.W.makesIn K C = true) (kc : PySem.W.keepIn K (.ref C) = true)
    (M : HasM P w K mg base C 1 "many" ["self"] (spMany C)) (TI : HasM P w K mg base C 1 "ties" ["self"] (spTies C)) : Has P w K mg base 4 "tied_too" ["yard", "pairs"] (spTiedToo C) := by
  refine has_of D scTiedToo (fun _ _ _ _ _ _ us hl => match us, hl with | [_, _], _ => rfl) (fun vs H Q E h => ?_) (fun f cdv A outer s H vs Q E hr h => ?_)
  · obtain ⟨y, l, n, ps, qs, rfl, _⟩ := h
    rfl
  · obtain ⟨y, l, n, ps, qs, rfl, hy, pl, ti, n1, n30, q⟩ := h
    refine ⟨_, pss_one (ps_ret (pe_hasMk I mk kc hr (by decide) (by rfl) T.mgC (pa_cons (pe_hasM0 (pv 0) T.cl M hr (by decide)) (pa_cons (pe_op op_cat (pe_hasM0 (pv 0) T.cl TI hr (by decide)) (pv 1)) pa_nil)))), ?_⟩
    obtain ⟨dx, l', td, dg, h1, h2, h3, h4⟩ := id hy
    have len := ti.len900 n30
    rw [List.length_append] at len
    refine ⟨_, rfl, y, dx, _, rfl, h1, look_no n l' td dg (by decide +kernel) (by decide +kernel) (by decide +kernel) (by decide +kernel), y, n, ps, rfl, hy, ?_⟩
    refine ⟨_, rfl, y, dx, _, rfl, h1, look_no n l' td dg (by decide +kernel) (by decide +kernel) (by decide +kernel) (by decide +kernel), y, n, ps, rfl, hy, fun H1 tl s1 ntl pt => ?_⟩
    obtain ⟨as, ea, ta⟩ := id pt
    obtain ⟨bs, eb, tb⟩ := pl.same s1
    have la := ta.length
    have lb := tb.length
    refine ⟨_, rfl, tl, l, _, _, rfl, rfl, ea, eb, ?_, fun p np => ?_⟩
    · rw [List.length_map, List.length_map]
      exact Nat.le_of_lt (small1000 (by omega))
    have sp := same_new (o := .lst (as.map V.ref ++ bs.map V.ref)) np
    have pp : PairsAt (upd H1 p (.lst (as.map V.ref ++ bs.map V.ref))) p (ps ++ qs) := ⟨as ++ bs, by rw [upd_same, List.map_append], TupsAt.append (ta.new np) (tb.new np)⟩
    have s2 := s1.trans sp
    generalize upd H1 p (.lst (as.map V.ref ++ bs.map V.ref)) = H2 at pp s2
    intro x dx nx ndx hne
    have sx : Same H2 (upd (upd H2 dx (.own x)) x (.ins C dx [])) := (same_new ndx).trans (same_new ((upd_ne (Ne.symm hne)).trans nx))
    refine ⟨x, dx, p, n, ps ++ qs, rfl, upd_same, pp.same sx, ti, n1, n30, fun H' k hy' => ⟨rfl, ?_⟩⟩
    refine q H' x (fun b o e => ?_) hy'
    have bx : b ≠ x := fun z => by
      have := s2 b o e
      rw [z, nx] at this
      cases this
    exact k b o bx (sx b o (s2 b o e))
/-! ### one step back -/
def spBack (C : Addr) : Sp := fun vs H Q _ => ∃ (y l : Addr) (n : Nat) (ps : List (Int × Int)) (os : List Int), vs = [.ref y, .ref l] ∧ YardAt C H y n ps ∧ OrdAt H l os ∧ IsOrd n os ∧ n ≤ 30 ∧ BackOk ps os ∧
  ∀ H', Same H H' → (stepBack ps os = none → Q .non H') ∧ (∀ os' r, stepBack ps os = some os' → H r = none → OrdAt H' r os' → Q (.ref r) H')
theorem scBack : FnScope ["yard", "order", "found"] ["yard", "order"] (defScope s_without_gap) := ⟨rfl, rfl, rfl, by decide +kernel, rfl, by decide +kernel, by decide +kernel⟩
theorem has_back (D : IsDef K mg "without_gap" s_without_gap) (G : Has P w K mg base 3 "gaps" ["yard", "order"] (spGaps C)) (LB : Has P w K mg base 2 "least_back" ["yard", "order", "at"] (spLeast C)) (TU : Has P w K mg base 3 "turned" ["yard", "order", "at", "back"] (spTurned C)) :
    Has P w K mg base 4 "without_gap" ["yard", "order"] (spBack C) := by
  refine has_of D scBack (fun _ _ _ _ _ _ us hl => match us, hl with | [_, _], _ => rfl) (fun vs H Q E h => ?_) (fun f cdv A outer s H vs Q E hr h => ?_)
  · obtain ⟨y, l, n, ps, os, rfl, _⟩ := h
    rfl
  · obtain ⟨y, l, n, ps, os, rfl, hy, ho, io, n30, bk, q⟩ := h
    refine ⟨_, pss_cons (ps_set (i := 2) scBack.nd rfl (.inl rfl) (pe_has G hr (by decide) (by rfl) (pa_cons (pv 0) (pa_cons (pv 1) pa_nil))))
      (pss_cons (ps_if (pt_not (pt_truth (pv 2) (by intro _; rfl))) (pss_one (ps_ret pe_non)) pss_nil)
      (pss_one (ps_ret (pe_has TU hr (by decide) (by rfl) (pa_cons (pv 0) (pa_cons (pv 1) (pa_cons (pe_ix (r := rIxL K) ix_list (pv 2) pe_int (fun _ _ => rfl)) (pa_cons (pe_has LB hr (by decide) (by rfl) (pa_cons (pv 0) (pa_cons (pv 1) (pa_cons (pe_ix (r := rIxL K) ix_list (pv 2) pe_int (fun _ _ => rfl)) pa_nil)))) pa_nil)))))))), ?_⟩
    have hlen := io.len
    refine ⟨_, rfl, _, rfl, y, l, n, ps, os, rfl, hy, ho, io, n30, fun H1 g s1 ng hg => ?_⟩
    refine ⟨_, rfl, _, .inl ⟨_, hg.sq, rfl⟩, ?_⟩
    rcases bk with bk | ⟨a, b, r, e1, e2⟩
    · rw [bk]
      refine iteT ((q H1 s1).1 ?_)
      unfold stepBack
      rw [bk]
    · rw [e1] at hg ⊢
      refine iteF ?_
      have ha : a < os.length := by
        have : a ∈ gapsOf ps os := by rw [e1]; simp
        exact List.mem_range.mp (List.mem_filter.mp this).1
      obtain ⟨b1, b2, _⟩ := lb_ok e2
      have at0 : ∀ {H'}, OrdAt H' g ((a :: r).map fun i : Nat => (i : Int)) → atI (((a :: r).map fun i : Nat => (i : Int)).map V.int) 0 = some (.int (a : Int)) := fun _ => atI_nat (j := 0) rfl
      refine ⟨_, rfl, _, rfl, _, rfl, g, _, _, _, rfl, rfl, hg.sq, at0 hg, ?_⟩
      refine ⟨_, rfl, _, rfl, _, rfl, g, _, _, _, rfl, rfl, hg.sq, at0 hg, ?_⟩
      refine ⟨y, l, n, ps, os, a, rfl, hy.same s1, ho.same s1, by omega, ha, fun H2 s2 => ?_⟩
      rw [e2]
      refine ⟨y, l, n, ps, os, a, b, rfl, (hy.same s1).same s2, (ho.same s1).same s2, io, n30, by omega, by omega, fun H3 r3 s3 nr hr3 => ?_⟩
      refine (q H3 (s1.trans (s2.trans s3))).2 _ r3 ?_ (s1.free (s2.free nr)) hr3
      unfold stepBack
      rw [e1]
      simp only [e2, Option.getD_some]
/-! ### a round of the closed yard is led back -/
def spOpened (C : Addr) : Sp := fun vs H Q _ => ∃ (y l : Addr) (n : Nat) (ps : List (Int × Int)) (os : List Int), vs = [.ref y, .ref l] ∧ YardAt C H y n ps ∧ Ties n ps ∧ OrdAt H l os ∧ IsOrd n os ∧ 3 ≤ n ∧ n ≤ 30 ∧ gapsOf (ps ++ closedOf n ps) os = [] ∧
  ∀ H' r as, Same H H' → H r = none → H' r = some (.lst (as.map V.ref)) → (∀ a ∈ as, H a = none ∧ a ≠ r) → OrdsAs H' as (openedOf n ps os) → Q (.ref r) H'
abbrev nOpened : List Str := ["yard", "order", "pairs", "orders", "ahead", "order_turned"]
theorem scOpened : FnScope nOpened ["yard", "order"] (defScope s_opened) := ⟨rfl, rfl, rfl, by decide +kernel, rfl, by decide +kernel, by decide +kernel⟩
theorem has_opened (D : IsDef K mg "opened" s_opened) (B : Blt mg) (rv : mg "reversed" = none) (CL : Has P w K mg base 3 "closed" ["yard"] (spClosed C)) (IR : Has P w K mg base 4 "is_round" ["yard", "order"] (spIsRound C)) (TT : Has P w K mg base 4 "tied_too" ["yard", "pairs"] (spTiedToo C))
    (WG : Has P w K mg base 4 "without_gap" ["yard", "order"] (spBack C)) : Has P w K mg base 5 "opened" ["yard", "order"] (spOpened C) := by
  refine has_of D scOpened (fun _ _ _ _ _ _ us hl => match us, hl with | [_, _], _ => rfl) (fun vs H Q E h => ?_) (fun f cdv A outer s H vs Q E hr h => ?_)
  · obtain ⟨y, l, n, ps, os, rfl, _⟩ := h
    rfl
  · obtain ⟨y, l, n, ps, os, rfl, hy, ti, ho, io, n3, n30, hg, q⟩ := h
    refine ⟨_, pss_cons (ps_set (i := 2) scOpened.nd rfl (.inl rfl) (pe_has CL hr (by decide) (by rfl) (pa_cons (pv 0) pa_nil)))
      (pss_cons (ps_if (pt_not (pt_val (pe_has IR hr (by decide) (by rfl) (pa_cons (pe_has TT hr (by decide) (by rfl) (pa_cons (pv 0) (pa_cons (pv 2) pa_nil))) (pa_cons (pv 1) pa_nil))))) pss_never pss_nil)
      (pss_cons (ps_set (i := 3) scOpened.nd rfl (.inl rfl) (pe_lst (pa_cons (pe_callTy call_list_of (by rfl) B.list (by decide +kernel) (pa_cons (pv 1) pa_nil)) pa_nil)))
      (pss_cons (ps_for PassesOwn.never rfl (pi_revR (by rfl) rv (prg_1 (by rfl) B.range (pe_callB call_len_seq (by rfl) B.len PySem.boot_len (pa_cons (pv 2) pa_nil)))) (pg_name (i := 4) scOpened.nd rfl (.inl rfl))
        (pss_cons (ps_set (i := 5) scOpened.nd rfl (.inl rfl) (pe_has WG hr (by decide) (by rfl) (pa_cons (pe_has TT hr (by decide) (by rfl) (pa_cons (pv 0) (pa_cons (pe_slice sl_list (pv 2) po_none (po_some (pv 4))) pa_nil))) (pa_cons (pe_ix (r := rIxL K) ix_list (pv 3) (pe_un un_neg pe_int) (fun _ _ => rfl)) pa_nil))))
        (pss_one (ps_if (pt_cmp (pc_notN (pv 5)) rfl) (pss_one (ps_expr (pe_bm PySem.F.plainAttrs_list PySem.F.slot_list_append PySem.F.type_list_append mt_append (pv 3) (pa_cons (pv 5) pa_nil)))) pss_nil))))
      (pss_one (ps_ret (pv 3)))))), ?_⟩
    have hcl := ti.closed_len n30
    refine ⟨_, rfl, y, n, ps, rfl, hy, ti, n30, fun H1 cl s1 ncl pcl => ?_⟩
    refine ⟨_, rfl, _, rfl, y, cl, n, ps, closedOf n ps, rfl, hy.same s1, pcl, ti.closed, by omega, n30, fun H2 z s2 hz => ?_⟩
    refine ⟨_, rfl, z, l, n, _, os, rfl, hz, (ho.same s1).same s2, io, n30, fun H3 s3 => ⟨_, rfl, ?_⟩⟩
    have er : isRound n (ps ++ closedOf n ps) os = true := by
      unfold isRound
      rw [hg, decide_eq_true n3]
      rfl
    rw [er]
    refine iteF ?_
    have s13 := s1.trans (s2.trans s3)
    have pcl3 := (pcl.same s2).same s3
    refine ⟨_, rfl, l, _, rfl, .inl (ho.same s13).sq, fun o0 no0 => ?_⟩
    have so := same_new (o := .lst (os.map V.int)) no0
    refine ⟨by show 1 ≤ sizeLine; decide, fun ol nol => ?_⟩
    have so2 := same_new (o := .lst [.ref o0]) nol
    have eo0 : OrdAt (upd (upd H3 o0 (.lst (os.map V.int))) ol (.lst [.ref o0])) o0 os := so2 _ _ upd_same
    have eol : upd (upd H3 o0 (.lst (os.map V.int))) ol (.lst [.ref o0]) ol = some (.lst [.ref o0]) := upd_same
    have s4 : Same H (upd (upd H3 o0 (.lst (os.map V.int))) ol (.lst [.ref o0])) := s13.trans (so.trans so2)
    have pcl4 := (pcl3.same so).same so2
    have no00 : H o0 = none := s13.free no0
    have nol0 : H ol = none := s13.free (so.free nol)
    have o0ol : o0 ≠ ol := (none_upd nol).1.symm
    have clol : cl ≠ ol := by
      obtain ⟨_, e, _⟩ := pcl3.same so
      exact ne_of_none e nol
    generalize upd (upd H3 o0 (.lst (os.map V.int))) ol (.lst [.ref o0]) = H4 at eo0 eol s4 pcl4
    obtain ⟨cs, ec, tc⟩ := id pcl4
    have lc := tc.length
    refine ⟨_, rfl, cl, _, rfl, .inl (SqL.of ec), ((cs.map V.ref).length : Int), rfl, by omega, by omega, by omega, by rw [List.length_map]; omega, ?_⟩
    rw [List.length_map, Int.sub_zero, Int.toNat_natCast, lc]
    refine for_rangeC (lo := 0 + ((closedOf n ps).length : Int) - 1) (c := -1) (n := (closedOf n ps).length) (fun i σ H5 => ∃ (as : List Addr) (done : List (List Int)) (cur : List Int) (x4 x5 : Option V), σ = [some (.ref y), some (.ref l), some (.ref cl), some (.ref ol), x4, x5] ∧ Same H H5 ∧ PairsAt H5 cl (closedOf n ps) ∧ H5 ol = some (.lst (as.map V.ref)) ∧ (∀ a ∈ as, H a = none ∧ a ≠ ol) ∧ OrdsAs H5 as done ∧
          done.getLast? = some cur ∧ IsOrd n cur ∧ gapsOf (ps ++ (closedOf n ps).take ((closedOf n ps).length - i)) cur = [] ∧ openedOf n ps os = done ++ openGo ps (closedOf n ps) ((closedOf n ps).length - i) cur ∧ done.length ≤ i + 1)
      ⟨[o0], [os], os, none, none, rfl, s4, pcl4, eol, fun a ha => (by rw [List.mem_singleton.mp ha]; exact ⟨no00, o0ol⟩), .cons eo0 .nil, rfl, io, by rw [Nat.sub_zero, List.take_length]; exact hg, rfl, by simp⟩ ?_ ?_
    · rintro i σ H5 hi ⟨as, done, cur, x4, x5, rfl, s5, p5, e5, fr5, os5, la5, io5, g5, op5, dl5⟩
      obtain ⟨j, hj⟩ : ∃ j, (closedOf n ps).length - i = j + 1 := ⟨(closedOf n ps).length - i - 1, by omega⟩
      have ej : (0 + ((closedOf n ps).length : Int) - 1 + ((i : Nat) : Int) * (-1)) = (j : Int) := by omega
      rw [ej]
      rw [hj] at g5 op5
      have hj' : (closedOf n ps).length - (i + 1) = j := by omega
      obtain ⟨p, hs, tk⟩ := closed_at (n := n) (ps := ps) (j := j) (by omega)
      rw [tk, ← List.append_assoc] at g5
      obtain ⟨bok, h1, h2⟩ := back_ok (ti.closed_take j) n3 io5 hs g5
      obtain ⟨cs5, ec5, tc5⟩ := id p5
      obtain ⟨al, ham, hal, hol⟩ := os5.lastV la5
      refine ⟨_, rfl, _, rfl, _, rfl, _, rfl, cl, _, rfl, SqL.of ec5, fun c1 nc1 => ?_⟩
      dsimp only
      rw [cut_refs]
      have sc := same_new (o := .lst ((cs5.take j).map V.ref)) nc1
      have pc1 : PairsAt (upd H5 c1 (.lst ((cs5.take j).map V.ref))) c1 ((closedOf n ps).take j) := ⟨_, upd_same, (tc5.new nc1).take j⟩
      refine ⟨y, c1, n, ps, _, rfl, (hy.same s5).same sc, pc1, ti.closed_take j, by omega, n30, fun H6 z6 s6 hz6 => ?_⟩
      have s56 := sc.trans s6
      refine ⟨_, rfl, _, rfl, ol, _, _, _, rfl, rfl, SqL.of (s56 _ _ e5), hal, ?_⟩
      refine ⟨z6, al, n, _, cur, rfl, hz6, hol.same s56, io5, n30, bok, fun H7 s7 => ⟨fun hb => ?_, fun os' r hb nr hr => ?_⟩⟩
      · refine ⟨_, rfl, _, rfl, iteF ⟨as, done, cur, _, _, rfl, s5.trans (s56.trans s7), (p5.same s56).same s7, s7 _ _ (s56 _ _ e5), fr5, (os5.same s56).same s7, la5, io5, ?_, ?_, by omega⟩⟩
        · rw [hj']
          exact h1 hb
        · rw [op5, hj', openGo_none hb]
      · obtain ⟨io', g'⟩ := h2 os' hb
        have e7 := s7 _ _ (s56 _ _ e5)
        have lo := os5.length
        have rol : r ≠ ol := (ne_of_none (s56 _ _ e5) nr).symm
        refine ⟨_, rfl, _, rfl, iteT ⟨_, rfl, .inl ⟨rfl, _, SqL.of e7⟩, _, rfl, ol, _, _, rfl, rfl, e7, ?_, ?_⟩⟩
        · rw [List.length_map]
          exact small1000 (by omega)
        have nr0 : H r = none := s5.free (s56.free nr)
        have kp := Kp.put ol H7 (.lst (as.map V.ref ++ [.ref r]))
        have s8 : Same H (upd H7 ol (.lst (as.map V.ref ++ [.ref r]))) := fun c o e => by
          rw [upd_ne (ne_of_none e nol0)]
          exact s7 _ _ (s56 _ _ (s5 _ _ e))
        refine ⟨as ++ [r], done ++ [os'], os', _, _, rfl, s8, ((p5.same s56).same s7).kp kp e7 clol, by rw [upd_same]; simp, fun a ha => ?_, OrdsAs.snoc (((os5.same s56).same s7).keep fun a ha o e => ?_) ?_, mem_last, io', ?_, ?_, by rw [List.length_append, List.length_singleton]; omega⟩
        · rcases List.mem_append.mp ha with h | h
          · exact fr5 a h
          · rw [List.mem_singleton.mp h]
            exact ⟨nr0, rol⟩
        · rw [upd_ne (fr5 a ha).2]
          exact e
        · unfold OrdAt
          rw [upd_ne rol]
          exact hr
        · rw [hj']
          exact g'
        · rw [op5, hj', openGo_some hb, List.append_assoc]
          rfl
    · rintro σ H5 ⟨as, done, cur, x4, x5, rfl, s5, p5, e5, fr5, os5, la5, io5, g5, op5, dl5⟩
      refine ⟨_, rfl, q H5 ol as s5 nol0 e5 fr5 ?_⟩
      rw [op5, Nat.sub_self]
      show OrdsAs H5 as (done ++ [])
      rw [List.append_nil]
      exact os5
end
end DR

set_option Elab.async false
set_option linter.all false
set_option maxRecDepth 100000
set_option maxHeartbeats 4000000
namespace DR
open PySem PySem.Spec PyProof.Rows L2
section
variable {P : Program} {w : World} {K : PySem.W.Frag} {mg : Str → Option Value} {base : Heap} {C : Addr}
/-! ### a round where all pairs are tied -/
def spByClosing (C : Addr) : Sp := fun vs H Q _ => ∃ (y : Addr) (n : Nat) (ps : List (Int × Int)), vs = [.ref y] ∧ YardAt C H y n ps ∧ Ties n ps ∧ 1 ≤ n ∧ n ≤ 30 ∧
  ∀ H', Same H H' → (n < 3 ∨ leftOf n (ps ++ closedOf n ps) ≠ [] → Q .non H') ∧ (∀ r os, 3 ≤ n → leftOf n (ps ++ closedOf n ps) = [] → (openedOf n ps (upTo n)).getLast? = some os → H r = none → OrdAt H' r os → Q (.ref r) H')
theorem scByClosing : FnScope ["yard", "many"] ["yard"] (defScope s_by_closing) := ⟨rfl, rfl, rfl, by decide +kernel, rfl, by decide +kernel, by decide +kernel⟩
theorem has_byclosing (D : IsDef K mg "by_closing" s_by_closing) (B : Blt mg) (T : YTxt K mg C) (M : HasM P w K mg base C 1 "many" ["self"] (spMany C)) (UT : Has P w K mg base 2 "untied" ["yard"] (spUntied C)) (TT : Has P w K mg base 4 "tied_too" ["yard", "pairs"] (spTiedToo C)) (CL : Has P w K mg base 3 "closed" ["yard"] (spClosed C))
    (OP : Has P w K mg base 5 "opened" ["yard", "order"] (spOpened C)) : Has P w K mg base 6 "by_closing" ["yard"] (spByClosing C) := by
  refine has_of D scByClosing (fun _ _ _ _ _ _ us hl => match us, hl with | [_], _ => rfl) (fun vs H Q E h => ?_) (fun f cdv A outer s H vs Q E hr h => ?_)
  · obtain ⟨y, n, ps, rfl, _⟩ := h
    rfl
  · obtain ⟨y, n, ps, rfl, hy, ti, n1, n30, q⟩ := h
    refine ⟨_, pss_cons (ps_set (i := 1) scByClosing.nd rfl (.inl rfl) (pe_hasM0 (pv 0) T.cl M hr (by decide)))
      (pss_cons (ps_if (PW.pt (pw_or (pt_cmpR op_lt (pv 1) pe_int (nomark _)) (pw_or1 (pt_truth (pe_has UT hr (by decide) (by rfl) (pa_cons (pe_has TT hr (by decide) (by rfl) (pa_cons (pv 0) (pa_cons (pe_has CL hr (by decide) (by rfl) (pa_cons (pv 0) pa_nil)) pa_nil))) pa_nil)) (by intro _; rfl))))) (pss_one (ps_ret pe_non)) pss_nil)
      (pss_one (ps_ret (pe_ix (r := rIxL K) ix_list (pe_has OP hr (by decide) (by rfl) (pa_cons (pv 0) (pa_cons (pe_listRg rfl (by rfl) B.list (prg_1 (by rfl) B.range (pv 1))) pa_nil))) (pe_un un_neg pe_int) (fun _ _ => rfl))))), ?_⟩
    obtain ⟨dx, l', td, dg, h1, h2, h3, h4⟩ := id hy
    refine ⟨_, rfl, y, dx, _, rfl, h1, look_no n l' td dg (by decide +kernel) (by decide +kernel) (by decide +kernel) (by decide +kernel), y, n, ps, rfl, hy, ?_⟩
    refine ⟨_, rfl, _, _, rfl, rfl, _, rfl, ?_⟩
    by_cases c : n < 3
    · rw [decide_eq_true (show (n : Int) < 3 by omega)]
      exact iteT (iteT ((q H (Same.refl _)).1 (.inl c)))
    · rw [decide_eq_false (show ¬ (n : Int) < 3 by omega)]
      refine iteF ?_
      refine ⟨_, rfl, _, rfl, y, n, ps, rfl, hy, ti, n30, fun H1 cl s1 ncl pcl => ?_⟩
      refine ⟨y, cl, n, ps, _, rfl, hy.same s1, pcl, ti.closed, n1, n30, fun H2 z s2 hz => ?_⟩
      refine ⟨z, n, _, rfl, hz, n30, fun H3 ul s3 nul pul => ?_⟩
      rw [untied_left ti.closed] at pul
      obtain ⟨us, eu, tu⟩ := id pul
      have lu := tu.length
      have s13 := s1.trans (s2.trans s3)
      refine ⟨_, .inl ⟨_, SqL.of eu, rfl⟩, ?_⟩
      cases e : leftOf n (ps ++ closedOf n ps) with
      | cons p r =>
        rw [e] at lu
        have hu : (!(us.map V.ref).isEmpty) = true := by
          cases us with
          | nil => simp at lu
          | cons u us => rfl
        rw [hu]
        refine iteT ((q H3 s13).1 (.inr (by rw [e]; simp)))
      | nil =>
        rw [e] at lu
        have hu : (!(us.map V.ref).isEmpty) = false := by
          cases us with
          | nil => rfl
          | cons u us => simp at lu
        rw [hu]
        refine iteF ?_
        refine ⟨_, rfl, _, rfl, (n : Int), rfl, RgOk.of_le (by omega) (by omega) (by omega) (by omega), fun r nr => ?_⟩
        rw [rgV_upTo]
        have sr := same_new (o := .lst ((upTo n).map V.int)) nr
        refine ⟨y, r, n, ps, upTo n, rfl, (hy.same s13).same sr, ti, upd_same, List.Perm.refl _, by omega, n30, all_round (by omega) e, fun H4 ol as s4 nol eol fr os4 => ?_⟩
        obtain ⟨os, hos⟩ : ∃ os, (openedOf n ps (upTo n)).getLast? = some os := by
          unfold openedOf
          exact ⟨_, List.getLast?_eq_some_getLast (List.cons_ne_nil _ _)⟩
        obtain ⟨a, ham, hal, hoa⟩ := os4.lastV hos
        refine ⟨_, rfl, ol, _, _, _, rfl, rfl, SqL.of eol, hal, ?_⟩
        exact (q H4 (s13.trans (sr.trans s4))).2 a os (by omega) e hos (s13.free (sr.free (fr a ham).1)) hoa
end
end DR

set_option Elab.async false
set_option linter.all false
set_option maxRecDepth 100000
set_option maxHeartbeats 4000000
/-! ### with more ties there are no more groups -/
namespace DR
open PySem PySem.Spec PyProof.Rows L2
theorem Rch.trans {ps : List (Int × Int)} {L : List Int} {a b c : Int} (h : Rch ps L a b) (g : Rch ps L b c) : Rch ps L a c := by
  induction g with
  | here _ => exact h
  | on _ hc t ih => exact .on ih hc t
theorem Rch.mono {ps ps' : List (Int × Int)} {L L' : List Int} {a b : Int} (hp : ∀ x y, tied ps x y = true → tied ps' x y = true) (hl : ∀ x ∈ L, x ∈ L') (h : Rch ps L a b) : Rch ps' L' a b := by
  induction h with
  | here h => exact .here (hl _ h)
  | on _ hc t ih => exact .on ih (hl _ hc) (hp _ _ t)
/-- apart from a group the ways stay -/
theorem Rch.off {ps : List (Int × Int)} {L : List Int} {a x y : Int} (h : Rch ps L y x) (no : ¬ Rch ps L a x) : Rch ps (L.filter fun z => !decide (z ∈ compOf ps L a)) y x := by
  have mem : ∀ z, z ∈ L → ¬ Rch ps L a z → z ∈ L.filter fun z => !decide (z ∈ compOf ps L a) := fun z hz hn => List.mem_filter.mpr ⟨hz, by
    rw [decide_eq_false (fun c => hn (mem_comp.mp c))]
    rfl⟩
  induction h with
  | here hm => exact .here (mem _ hm no)
  | @on b c r hc t ih =>
    have nb : ¬ Rch ps L a b := fun z => no (.on z hc t)
    exact .on (ih nb) (mem _ hc no) t
def IsLead (ps : List (Int × Int)) (L : List Int) (x : Int) : Prop := ∀ y ∈ L, y < x → ¬ Rch ps L y x
open Classical in
noncomputable def leads (ps : List (Int × Int)) (L : List Int) : List Int := L.filter fun x => decide (IsLead ps L x)
open Classical in
theorem leads_len {ps : List (Int × Int)} : ∀ (m : Nat) (L : List Int), L.length ≤ m → L.Pairwise (· < ·) → (groupsF ps L.length L).length = (leads ps L).length
  | _, [], _, _ => rfl
  | 0, _ :: _, h, _ => by simp at h
  | m + 1, a :: l, h, lt => by
    rw [groupsF_cons, List.length_cons]
    have less := left_less (ps := ps) (a := a) (l := l)
    rw [leads_len m _ (by simp at h; omega) (lt.filter _)]
    have ha : a ∈ compOf ps (a :: l) a := mem_comp.mpr (.here (by simp))
    have p1 := (List.pairwise_cons.mp lt).1
    have la : IsLead ps (a :: l) a := fun y hy yl => by
      rcases List.mem_cons.mp hy with e | hy
      · omega
      · have := p1 y hy
        omega
    have eL : ((a :: l).filter fun z => !decide (z ∈ compOf ps (a :: l) a)) = l.filter fun z => !decide (z ∈ compOf ps (a :: l) a) := by
      rw [List.filter_cons, if_neg (by simp [ha])]
    have key : ∀ x ∈ l, IsLead ps (a :: l) x ↔ (x ∉ compOf ps (a :: l) a ∧ IsLead ps ((a :: l).filter fun z => !decide (z ∈ compOf ps (a :: l) a)) x) := fun x hx => by
      constructor
      · intro ld
        have nx : ¬ Rch ps (a :: l) a x := ld a (by simp) (p1 x hx)
        refine ⟨fun c => nx (mem_comp.mp c), fun y hy yx r => ?_⟩
        exact ld y (List.mem_filter.mp hy).1 yx (r.mono (fun _ _ t => t) fun z hz => (List.mem_filter.mp hz).1)
      · rintro ⟨nx, ld⟩ y hy yx r
        have nx' : ¬ Rch ps (a :: l) a x := fun c => nx (mem_comp.mpr c)
        have r' := r.off nx'
        have ym : y ∈ (a :: l).filter fun z => !decide (z ∈ compOf ps (a :: l) a) := by
          refine List.mem_filter.mpr ⟨hy, ?_⟩
          rw [decide_eq_false (fun c => nx' ((mem_comp.mp c).trans r))]
          rfl
        exact ld y ym yx r'
    have e2 : leads ps (a :: l) = a :: l.filter fun x => decide (IsLead ps (a :: l) x) := by
      unfold leads
      rw [List.filter_cons, if_pos (decide_eq_true la)]
    rw [e2, List.length_cons]
    congr 2
    unfold leads
    rw [eL, List.filter_filter]
    refine List.filter_congr fun x hx => ?_
    have k := key x hx
    rw [eL] at k
    rw [Bool.eq_iff_iff, Bool.and_eq_true, decide_eq_true_iff, decide_eq_true_iff]
    constructor
    · rintro ⟨h1, h2⟩
      exact k.mpr ⟨by simpa using h2, h1⟩
    · intro h1
      obtain ⟨h2, h3⟩ := k.mp h1
      exact ⟨h3, by simpa using h2⟩
theorem groups_anti {n : Nat} {ps ps' : List (Int × Int)} (hp : ∀ p ∈ ps, p ∈ ps') (gone : List Int) : (groupsOf n ps' gone).length ≤ (groupsOf n ps gone).length := by
  have ll : (leftP n gone).length ≤ n := by
    have := List.length_filter_le (fun x => !decide (x ∈ gone)) (upTo n)
    rwa [upTo_len] at this
  unfold groupsOf
  rw [groupsF_at ll, groupsF_at ll, leads_len _ _ (Nat.le_refl _) (leftP_lt n gone), leads_len _ _ (Nat.le_refl _) (leftP_lt n gone)]
  have tm : ∀ x y, tied ps x y = true → tied ps' x y = true := fun x y t => by
    unfold tied at t ⊢
    rcases (by simpa using t : (x, y) ∈ ps ∨ (y, x) ∈ ps) with h | h
    · simp [hp _ h]
    · simp [hp _ h]
  unfold leads
  generalize leftP n gone = L
  have sub : ∀ l : List Int, ((l.filter fun x => @decide (IsLead ps' L x) (Classical.propDecidable _)).length ≤ (l.filter fun x => @decide (IsLead ps L x) (Classical.propDecidable _)).length) := by
    intro l
    induction l with
    | nil => exact Nat.le_refl _
    | cons x l ih =>
      rw [List.filter_cons, List.filter_cons]
      by_cases c : IsLead ps' L x
      · have c2 : IsLead ps L x := fun y hy yx r => c y hy yx (r.mono tm fun _ h => h)
        rw [if_pos (by simpa using c), if_pos (by simpa using c2)]
        exact Nat.succ_le_succ ih
      · rw [if_neg (by simpa using c)]
        by_cases c2 : IsLead ps L x
        · rw [if_pos (by simpa using c2)]
          exact Nat.le_succ_of_le ih
        · rw [if_neg (by simpa using c2)]
          exact ih
  exact sub L
end DR

set_option Elab.async false
set_option linter.all false
set_option maxRecDepth 100000
set_option maxHeartbeats 4000000
/-! ### without k places a round falls into at most k groups -/
namespace DR
open PySem PySem.Spec PyProof.Rows L2
def nxJ (n k : Nat) : Nat := if k + 1 < n then k + 1 else 0
theorem nxJ_lt {n k : Nat} (h : k < n) : nxJ n k < n := by
  unfold nxJ
  split <;> omega
theorem nxJ_inj {n i j : Nat} (hi : i < n) (hj : j < n) (h : nxJ n i = nxJ n j) : i = j := by
  unfold nxJ at h
  split at h <;> split at h <;> omega
theorem cyc_tied {ps : List (Int × Int)} {os : List Int} (h : cyc ps os = 0) {i : Nat} (hi : i < os.length) : tied ps (os.getD i 0) (os.getD (nxJ os.length i) 0) = true := by
  have g : gapsOf ps os = [] := List.eq_nil_of_length_eq_zero ((gaps_cyc ps os).trans h)
  have e : gapAt ps os i = false := by
    cases c : gapAt ps os i with
    | false => rfl
    | true =>
      have : i ∈ gapsOf ps os := List.mem_filter.mpr ⟨List.mem_range.mpr hi, c⟩
      rw [g] at this
      cases this
  unfold gapAt at e
  have e2 : (os ++ os).getD (i + 1) 0 = os.getD (nxJ os.length i) 0 := by
    unfold nxJ
    rw [List.getD_eq_getElem?_getD, List.getD_eq_getElem?_getD]
    split
    · rename_i c
      rw [List.getElem?_append_left c]
    · rename_i c
      rw [List.getElem?_append_right (by omega), show i + 1 - os.length = 0 by omega]
  rw [e2] at e
  simpa using e
theorem Rch.symm {ps : List (Int × Int)} {L : List Int} {a b : Int} (h : Rch ps L a b) (ha : a ∈ L) : Rch ps L b a := by
  induction h with
  | here h => exact .here h
  | @on b c r hc t ih => exact Rch.trans (.on (.here hc) r.mem (by rw [tied_comm]; exact t)) ih
/-- going on from a place one comes to one whose follower is gone -/
theorem to_gone {n : Nat} {ps : List (Int × Int)} {os gone : List Int} (io : IsOrd n os) (h : cyc ps os = 0) (hg : ∃ g ∈ gone, g ∈ os) {x : Int} (hx : x ∈ leftP n gone) : ∃ i, i < n ∧ Rch ps (leftP n gone) x (os.getD i 0) ∧ os.getD (nxJ n i) 0 ∈ gone := by
  have hl := IsOrd.len io
  have memL : ∀ {y : Int}, y ∈ os → y ∉ gone → y ∈ leftP n gone := fun {y} hy hn => List.mem_filter.mpr ⟨io.mem_iff.mp hy, by simp [hn]⟩
  have at_mem : ∀ {i : Nat}, i < n → os.getD i 0 ∈ os := fun {i} hi => by
    rw [List.getD_eq_getElem?_getD, List.getElem?_eq_getElem (by omega)]
    exact List.getElem_mem _
  by_cases c : ∃ i, i < n ∧ Rch ps (leftP n gone) x (os.getD i 0) ∧ os.getD (nxJ n i) 0 ∈ gone
  · exact c
  · exfalso
    have step : ∀ i, i < n → Rch ps (leftP n gone) x (os.getD i 0) → Rch ps (leftP n gone) x (os.getD (nxJ n i) 0) := fun i hi r => by
      have hn := nxJ_lt hi
      have ng : os.getD (nxJ n i) 0 ∉ gone := fun z => c ⟨i, hi, r, z⟩
      have t := cyc_tied h (i := i) (by omega)
      rw [hl] at t
      exact .on r (memL (at_mem hn) ng) t
    have xo : x ∈ os := io.mem_iff.mpr (List.mem_filter.mp hx).1
    obtain ⟨j, hj, ej⟩ := List.mem_iff_getElem.mp xo
    have r0 : Rch ps (leftP n gone) x (os.getD j 0) := by
      rw [List.getD_eq_getElem?_getD, List.getElem?_eq_getElem hj, Option.getD_some, ej]
      exact .here hx
    have up : ∀ d, j + d < n → Rch ps (leftP n gone) x (os.getD (j + d) 0) := by
      intro d
      induction d with
      | zero => exact fun _ => r0
      | succ d ih =>
        intro hd
        have s := step (j + d) (by omega) (ih (by omega))
        have e : nxJ n (j + d) = j + (d + 1) := by
          unfold nxJ
          rw [if_pos (by omega)]
          omega
        rwa [e] at s
    have r1 : Rch ps (leftP n gone) x (os.getD 0 0) := by
      have s := step (n - 1) (by omega) (by have := up (n - 1 - j) (by omega); rwa [show j + (n - 1 - j) = n - 1 by omega] at this)
      have e : nxJ n (n - 1) = 0 := by
        unfold nxJ
        rw [if_neg (by omega)]
      rwa [e] at s
    have all : ∀ d, d < n → Rch ps (leftP n gone) x (os.getD d 0) := by
      intro d
      induction d with
      | zero => exact fun _ => r1
      | succ d ih =>
        intro hd
        have s := step d (by omega) (ih (by omega))
        have e : nxJ n d = d + 1 := by
          unfold nxJ
          rw [if_pos (by omega)]
        rwa [e] at s
    obtain ⟨g, hg1, hg2⟩ := hg
    obtain ⟨k, hk, ek⟩ := List.mem_iff_getElem.mp hg2
    have r := (all k (by omega)).mem
    rw [List.getD_eq_getElem?_getD, List.getElem?_eq_getElem hk, Option.getD_some, ek] at r
    have := (List.mem_filter.mp r).2
    simp [hg1] at this
theorem map_nodupT {α β : Type} {f : α → β} : ∀ {l : List α}, l.Nodup → (∀ a ∈ l, ∀ b ∈ l, f a = f b → a = b) → (l.map f).Nodup
  | [], _, _ => .nil
  | a :: l, h, inj => by
    obtain ⟨h1, h2⟩ := List.nodup_cons.mp h
    rw [List.map_cons, List.nodup_cons]
    refine ⟨fun m => ?_, map_nodupT h2 fun x hx y hy => inj x (by simp [hx]) y (by simp [hy])⟩
    obtain ⟨b, hb, e⟩ := List.mem_map.mp m
    exact h1 (inj b (by simp [hb]) a (by simp) e ▸ hb)
theorem tough {n : Nat} {ps : List (Int × Int)} {os gone : List Int} (io : IsOrd n os) (h : cyc ps os = 0) (hg : ∃ g ∈ gone, g ∈ os) : (groupsOf n ps gone).length ≤ gone.length := by
  have hl := IsOrd.len io
  have ll : (leftP n gone).length ≤ n := by
    have := List.length_filter_le (fun x => !decide (x ∈ gone)) (upTo n)
    rwa [upTo_len] at this
  unfold groupsOf
  rw [groupsF_at ll, leads_len _ _ (Nat.le_refl _) (leftP_lt n gone)]
  have ex : ∀ x, ∃ i, x ∈ leftP n gone → i < n ∧ Rch ps (leftP n gone) x (os.getD i 0) ∧ os.getD (nxJ n i) 0 ∈ gone := fun x => by
    by_cases c : x ∈ leftP n gone
    · obtain ⟨i, hi⟩ := to_gone io h hg c
      exact ⟨i, fun _ => hi⟩
    · exact ⟨0, fun z => absurd z c⟩
  obtain ⟨f, hf⟩ := Classical.axiomOfChoice ex
  have lm : ∀ x ∈ leads ps (leftP n gone), x ∈ leftP n gone := fun x hx => by
    unfold leads at hx
    exact (List.mem_filter.mp hx).1
  have ld : ∀ x ∈ leads ps (leftP n gone), IsLead ps (leftP n gone) x := fun x hx => by
    unfold leads at hx
    simpa using (List.mem_filter.mp hx).2
  have ln : (leads ps (leftP n gone)).Nodup := by
    unfold leads
    exact ((leftP_lt n gone).imp fun h => by omega).filter _
  have nd : os.Nodup := io.nodup_iff.mpr (upTo_nodup n)
  rw [← List.length_map (f := fun x => os.getD (nxJ n (f x)) 0)]
  refine nodup_le _ _ (map_nodupT ln fun x hx y hy e => ?_) fun z hz => ?_
  · obtain ⟨x1, x2, _⟩ := hf x (lm x hx)
    obtain ⟨y1, y2, _⟩ := hf y (lm y hy)
    have a1 := nxJ_lt x1
    have a2 := nxJ_lt y1
    have e : os.getD (nxJ n (f x)) 0 = os.getD (nxJ n (f y)) 0 := e
    rw [List.getD_eq_getElem?_getD, List.getD_eq_getElem?_getD, List.getElem?_eq_getElem (by omega), List.getElem?_eq_getElem (by omega)] at e
    have e : os[nxJ n (f x)] = os[nxJ n (f y)] := e
    have ei := nxJ_inj x1 y1 ((List.getElem_inj nd).mp e)
    rw [← ei] at y2
    have r1 := x2.trans (y2.symm (lm y hy))
    have r2 := y2.trans (x2.symm (lm x hx))
    by_cases c : x < y
    · exact absurd r1 (ld y hy x (lm x hx) c)
    · by_cases c2 : y < x
      · exact absurd r2 (ld x hx y (lm y hy) c2)
      · omega
  · obtain ⟨x, hx, rfl⟩ := List.mem_map.mp hz
    exact (hf x (lm x hx)).2.2
end DR

set_option Elab.async false
set_option linter.all false
set_option maxRecDepth 100000
set_option maxHeartbeats 4000000
/-! ### some round is counted just where there is one -/
namespace DR
open PySem PySem.Spec PyProof.Rows L2
theorem counted_pos {n : Nat} (n3 : 3 ≤ n) {ps : List (Int × Int)} : 0 < countedOf n ps ↔ ∃ os, IsOrd n os ∧ cyc ps os = 0 := by
  have n1 : 1 ≤ n := by omega
  have two := tours_two n3 ps
  rw [counted_rounds n1]
  constructor
  · intro h
    have h2 : 0 < (toursOf n ps).length := by omega
    obtain ⟨t, ht⟩ := List.exists_mem_of_length_pos h2
    have tt := (mem_tours n1).mp ht
    exact ⟨t, tt.1, tt.2.2⟩
  · rintro ⟨os, io, c⟩
    have z : (0 : Int) ∈ os := (List.Perm.mem_iff io).mpr (by
      unfold upTo
      exact List.mem_map.mpr ⟨0, List.mem_range.mpr (by omega), rfl⟩)
    have ht : rot0 os ∈ toursOf n ps := (mem_tours n1).mpr ⟨(rot0_perm os).trans io, rot0_head z, by rw [rot0_cyc]; exact c⟩
    have := List.length_pos_of_mem ht
    omega
end DR

set_option Elab.async false
set_option linter.all false
set_option maxRecDepth 100000
set_option maxHeartbeats 4000000
/-! ### the least round -/
namespace DR
open PySem PySem.Spec PyProof.Rows L2
theorem find_filter {α : Type} (f g : α → Bool) : ∀ l : List α, l.find? (fun x => f x && g x) = (l.filter f).find? g
  | [] => rfl
  | a :: l => by
    rw [List.find?_cons, List.filter_cons]
    cases hf : f a with
    | false =>
      simp only [Bool.false_and, Bool.false_eq_true, if_false]
      exact find_filter f g l
    | true =>
      simp only [Bool.true_and, if_true]
      rw [List.find?_cons]
      cases g a with
      | true => rfl
      | false => exact find_filter f g l
theorem head_flat {α β : Type} (g : α → List β) : ∀ l : List α, (l.flatMap g).head? = l.findSome? fun a => (g a).head?
  | [] => rfl
  | a :: l => by
    rw [List.flatMap_cons, List.findSome?_cons, List.head?_append, head_flat g l]
    cases (g a).head? <;> rfl
theorem filt_flat {α β : Type} (f : β → Bool) (g : α → List β) : ∀ l : List α, (l.flatMap g).filter f = l.flatMap fun a => (g a).filter f
  | [] => rfl
  | a :: l => by rw [List.flatMap_cons, List.flatMap_cons, List.filter_append, filt_flat f g l]
theorem some_find {α β : Type} (p : α → Bool) (h : α → Option β) (hp : ∀ a, p a = (h a).isSome) : ∀ l : List α, l.findSome? h = match l.find? p with
    | none => none
    | some a => h a
  | [] => rfl
  | a :: l => by
    rw [List.findSome?_cons, List.find?_cons, hp a]
    cases e : h a with
    | none => exact some_find p h hp l
    | some b =>
      show some b = h a
      rw [e]
theorem leastGo_head {n : Nat} (ps : List (Int × Int)) : ∀ (k : Nat) (o : List Int), (restOf n o).length = k → (1 ≤ k ∨ tied ps (lastOf o) 0 = true) → leastGo ps k o (restOf n o) = ((extGo n ps k [o]).filter fun r => tied ps (lastOf r) 0).head?
  | 0, o, _, h => by
    rcases h with h | h
    · omega
    · show some o = ([o].filter _).head?
      simp [h]
  | k + 1, o, hk, _ => by
    have e : [o].flatMap (nexts n ps) = nexts n ps o := by simp
    show (match leastOn ps (lastOf o) (restOf n o) with | none => none | some x => leastGo ps k (o ++ [x]) ((restOf n o).filter fun y => decide (y ≠ x))) = ((extGo n ps k ([o].flatMap (nexts n ps))).filter _).head?
    rw [e, extGo_flat, filt_flat, head_flat]
    unfold nexts
    rw [goes_rest, List.findSome?_map]
    have hq : ∀ x, x ∈ (restOf n o).filter (tied ps (lastOf o)) → decide (waysOf ps ((restOf n o).length - 1) x ((restOf n o).filter fun y => decide (y ≠ x)) ≠ 0) = (((extGo n ps k [o ++ [x]]).filter fun r => tied ps (lastOf r) 0).head?).isSome := fun x hx => by
      have hx2 := (List.mem_filter.mp hx).1
      have hl := rest_len_snoc hx2
      have := ways_ext n ps k (o ++ [x]) (by omega)
      rw [lastOf_snoc, rest_snoc] at this
      rw [hk, Nat.add_sub_cancel, ← this]
      cases (extGo n ps k [o ++ [x]]).filter fun r => tied ps (lastOf r) 0 with
      | nil => rfl
      | cons a l => rfl
    have hL : leastOn ps (lastOf o) (restOf n o) = ((restOf n o).filter (tied ps (lastOf o))).find? fun x => decide (waysOf ps ((restOf n o).length - 1) x ((restOf n o).filter fun y => decide (y ≠ x)) ≠ 0) := find_filter _ _ _
    rw [hL]
    have ih : ∀ x, x ∈ (restOf n o).filter (tied ps (lastOf o)) → decide (waysOf ps ((restOf n o).length - 1) x ((restOf n o).filter fun y => decide (y ≠ x)) ≠ 0) = true → leastGo ps k (o ++ [x]) ((restOf n o).filter fun y => decide (y ≠ x)) = ((extGo n ps k [o ++ [x]]).filter fun r => tied ps (lastOf r) 0).head? := fun x hx hw => by
      have hx2 := (List.mem_filter.mp hx).1
      have hl := rest_len_snoc hx2
      rw [← rest_snoc]
      refine leastGo_head ps k (o ++ [x]) (by omega) ?_
      by_cases c : 1 ≤ k
      · exact .inl c
      · right
        have k0 : k = 0 := by omega
        subst k0
        have hw := of_decide_eq_true hw
        rw [hk] at hw
        rw [lastOf_snoc]
        cases ht : tied ps x 0 with
        | true => rfl
        | false =>
          exfalso
          apply hw
          show (if tied ps x 0 = true then 1 else 0) = 0
          rw [ht]
          rfl
    generalize (restOf n o).filter (tied ps (lastOf o)) = cand at hq ih
    clear hL
    obtain ⟨hh, hhe⟩ : ∃ hh : Int → Option (List Int), ∀ x, hh x = ((extGo n ps k [o ++ [x]]).filter fun r => tied ps (lastOf r) 0).head? := ⟨_, fun _ => rfl⟩
    obtain ⟨dd, dde⟩ : ∃ dd : Int → Bool, ∀ x, dd x = decide (waysOf ps ((restOf n o).length - 1) x ((restOf n o).filter fun y => decide (y ≠ x)) ≠ 0) := ⟨_, fun _ => rfl⟩
    obtain ⟨gg, gge⟩ : ∃ gg : Int → Option (List Int), ∀ x, gg x = leastGo ps k (o ++ [x]) ((restOf n o).filter fun y => decide (y ≠ x)) := ⟨_, fun _ => rfl⟩
    have e1 : ((fun r => ((extGo n ps k [r]).filter fun r => tied ps (lastOf r) 0).head?) ∘ fun x => o ++ [x]) = hh := funext fun x => (hhe x).symm
    have e2 : (fun x => decide (waysOf ps ((restOf n o).length - 1) x ((restOf n o).filter fun y => decide (y ≠ x)) ≠ 0)) = dd := funext fun x => (dde x).symm
    have e3 : (fun x => leastGo ps k (o ++ [x]) ((restOf n o).filter fun y => decide (y ≠ x))) = gg := funext fun x => (gge x).symm
    have hq' : ∀ x, x ∈ cand → dd x = (hh x).isSome := fun x hx => by rw [dde, hhe, hq x hx]
    have ih' : ∀ x, x ∈ cand → dd x = true → gg x = hh x := fun x hx hw => by
      rw [gge, hhe]
      rw [dde] at hw
      exact ih x hx hw
    have key : ∀ l : List Int, (∀ x ∈ l, x ∈ cand) → (match l.find? dd with | none => none | some x => gg x) = l.findSome? hh := by
      intro l
      induction l with
      | nil => exact fun _ => rfl
      | cons x l ihl =>
        intro hl
        have hx := hl x (by simp)
        have q1 := hq' x hx
        rw [List.find?_cons, List.findSome?_cons]
        cases hd : dd x with
        | true =>
          rw [hd] at q1
          have q2 := ih' x hx hd
          cases e4 : hh x with
          | none =>
            rw [e4] at q1
            cases q1
          | some b =>
            rw [e4] at q2
            exact q2
        | false =>
          rw [hd] at q1
          cases e4 : hh x with
          | none => exact ihl fun y hy => hl y (by simp [hy])
          | some b =>
            rw [e4] at q1
            cases q1
    have fin := key cand fun x h => h
    rw [← e1, ← e2] at fin
    refine Eq.trans ?_ fin
    rw [e2]
    cases cand.find? dd with
    | none => rfl
    | some x => exact (gge x).symm
theorem least_head {n : Nat} (n2 : 2 ≤ n) (ps : List (Int × Int)) : leastOf n ps = (toursOf n ps).head? := by
  obtain ⟨h1, h2⟩ := rest_zero (n := n) (by omega)
  unfold leastOf toursOf
  rw [rows_ext, ← h1]
  exact leastGo_head ps (n - 1) [0] h2 (.inl (by omega))
end DR

set_option Elab.async false
set_option linter.all false
set_option maxRecDepth 100000
set_option maxHeartbeats 4000000
/-! ### what parting and the least round say -/
namespace DR
open PySem PySem.Spec PyProof.Rows L2
theorem partGo_says {n : Nat} {ps : List (Int × Int)} : ∀ {c k : Nat} {js : List Nat}, 1 ≤ k → partGo n ps c k = some js → js.length < (groupsOf n ps (ofN js)).length ∧ js ≠ [] ∧ ∀ j ∈ js, j < n
  | 0, _, _, _, h => by cases h
  | c + 1, k, js, k1, h => by
    rw [partGo_succ] at h
    cases e : partIn n ps k with
    | none =>
      rw [e] at h
      exact partGo_says (by omega) h
    | some ls =>
      rw [e] at h
      obtain rfl : ls = js := Option.some.inj h
      unfold partIn at e
      have h1 := List.find?_some e
      have h2 := List.mem_of_find?_eq_some e
      obtain ⟨l1, _, l3⟩ := (mem_combF k n 0 ls).mp h2
      refine ⟨?_, fun z => ?_, fun j hj => ?_⟩
      · rw [l1]
        exact of_decide_eq_true h1
      · rw [z] at l1
        simp at l1
        omega
      · have := l3 j hj
        omega
theorem parting_says {n : Nat} {ps : List (Int × Int)} {js : List Nat} (h : partingOf n ps = some js) : js.length < (groupsOf n ps (ofN js)).length ∧ js ≠ [] ∧ ∀ j ∈ js, j < n := partGo_says (Nat.le_refl 1) h
theorem parted_none {n : Nat} {ps : List (Int × Int)} {js : List Nat} (h : partingOf n ps = some js) {os : List Int} (io : IsOrd n os) (c : cyc ps os = 0) : False := by
  obtain ⟨h1, h2, h3⟩ := parting_says h
  have := tough (gone := ofN js) io c (by
    cases js with
    | nil => exact absurd rfl h2
    | cons j l =>
      refine ⟨(j : Int), by simp [ofN], ?_⟩
      have hj := h3 j (by simp)
      exact (List.Perm.mem_iff io).mpr (upTo_mem.mpr ⟨by omega, by omega⟩))
  have e : (ofN js).length = js.length := by simp [ofN]
  omega
theorem cyc_gaps {ps : List (Int × Int)} {os : List Int} : cyc ps os = 0 ↔ gapsOf ps os = [] := by
  rw [← gaps_cyc]
  exact ⟨List.eq_nil_of_length_eq_zero, fun h => by rw [h]; rfl⟩
theorem least_tour {n : Nat} (n3 : 3 ≤ n) {ps : List (Int × Int)} {os : List Int} (h : leastOf n ps = some os) : IsOrd n os ∧ cyc ps os = 0 := by
  rw [least_head (by omega) ps] at h
  have hm : os ∈ toursOf n ps := List.mem_of_head? h
  obtain ⟨h1, _, h3⟩ := (mem_tours (by omega)).mp hm
  exact ⟨h1, h3⟩
theorem least_none {n : Nat} (n3 : 3 ≤ n) {ps : List (Int × Int)} (h : leastOf n ps = none) : ¬ ∃ os, IsOrd n os ∧ cyc ps os = 0 := by
  rw [least_head (by omega) ps] at h
  rw [← counted_pos n3]
  have two := tours_two n3 ps
  have : toursOf n ps = [] := List.head?_eq_none_iff.mp h
  rw [this] at two
  rw [counted_rounds (by omega)]
  simp at two
  omega
theorem partGo_lt {n : Nat} {ps : List (Int × Int)} : ∀ {c k : Nat} {js : List Nat}, partGo n ps c k = some js → js.Pairwise (· < ·)
  | 0, _, _, h => by cases h
  | c + 1, k, js, h => by
    rw [partGo_succ] at h
    cases e : partIn n ps k with
    | none =>
      rw [e] at h
      exact partGo_lt h
    | some ls =>
      rw [e] at h
      obtain rfl : ls = js := Option.some.inj h
      unfold partIn at e
      have h2 := List.mem_of_find?_eq_some e
      exact ((mem_combF k n 0 ls).mp h2).2.1
end DR

set_option Elab.async false
set_option linter.all false
set_option maxRecDepth 100000
set_option maxHeartbeats 4000000
/-! ### rising rows, made by going on at the end -/
namespace DR
open PySem PySem.Spec PyProof.Rows L2
def stOf (lo : Nat) (row : List Nat) : Nat := match row.getLast? with
  | none => lo
  | some l => l + 1
def extC (N lo : Nat) (row : List Nat) : List (List Nat) := (List.range (N - stOf lo row)).map fun i => row ++ [stOf lo row + i]
theorem stOf_cons {lo x : Nat} {row : List Nat} : stOf lo (x :: row) = stOf (x + 1) row := by
  unfold stOf
  cases row with
  | nil => rfl
  | cons y r =>
    rw [List.getLast?_cons_cons]
    cases e : (y :: r).getLast? with
    | none => simp at e
    | some l => rfl
theorem extC_cons {N lo x : Nat} {row : List Nat} : extC N lo (x :: row) = (extC N (x + 1) row).map (x :: ·) := by
  unfold extC
  rw [stOf_cons, List.map_map]
  rfl
theorem stOf_ne {lo lo' : Nat} {row : List Nat} (h : row ≠ []) : stOf lo row = stOf lo' row := by
  unfold stOf
  cases e : row.getLast? with
  | none => exact (h (by simpa using e)).elim
  | some l => rfl
theorem extC_ne {N lo lo' : Nat} {row : List Nat} (h : row ≠ []) : extC N lo row = extC N lo' row := by
  unfold extC
  rw [stOf_ne h]
theorem flat_congr {α β : Type} {f g : α → List β} : ∀ {l : List α}, (∀ x ∈ l, f x = g x) → l.flatMap f = l.flatMap g
  | [], _ => rfl
  | x :: l, h => by
    rw [List.flatMap_cons, List.flatMap_cons, h x (by simp), flat_congr fun y hy => h y (List.mem_cons_of_mem _ hy)]
theorem comb_zero (m lo : Nat) : combF 0 m lo = [[]] := by
  unfold combF
  rfl
theorem comb_succ (k m lo : Nat) : combF (k + 1) (m + 1) lo = (combF k m (lo + 1)).map (lo :: ·) ++ combF (k + 1) m (lo + 1) := rfl
theorem comb_one : ∀ m lo : Nat, combF 1 m lo = (List.range m).map fun i => [lo + i]
  | 0, lo => rfl
  | m + 1, lo => by
    rw [comb_succ, comb_zero, comb_one m (lo + 1), List.range_succ_eq_map, List.map_cons, List.map_nil, List.cons_append, List.nil_append, List.map_cons, List.map_map]
    show [lo] :: _ = _ :: _
    congr 1
    refine List.map_congr_left fun i _ => ?_
    show [lo + 1 + i] = [lo + (i + 1)]
    congr 1
    omega
theorem comb_ext : ∀ k m lo : Nat, (combF k m lo).flatMap (extC (lo + m) lo) = combF (k + 1) m lo
  | 0, m, lo => by
    rw [comb_one, comb_zero]
    show extC (lo + m) lo [] ++ [] = _
    rw [List.append_nil]
    unfold extC
    show (List.range (lo + m - lo)).map _ = _
    rw [show lo + m - lo = m by omega]
    rfl
  | k + 1, 0, lo => rfl
  | k + 1, m + 1, lo => by
    show ((combF k m (lo + 1)).map (lo :: ·) ++ combF (k + 1) m (lo + 1)).flatMap _ = (combF (k + 1) m (lo + 1)).map (lo :: ·) ++ combF (k + 2) m (lo + 1)
    rw [List.flatMap_append]
    congr 1
    · rw [List.flatMap_map, ← comb_ext k m (lo + 1), List.map_flatMap]
      refine flat_congr fun r _ => ?_
      rw [extC_cons, show lo + (m + 1) = lo + 1 + m by omega]
    · rw [← comb_ext (k + 1) m (lo + 1)]
      refine flat_congr fun r hr => ?_
      have hl := ((mem_combF (k + 1) m (lo + 1) r).mp hr).1
      rw [show lo + (m + 1) = lo + 1 + m by omega]
      exact extC_ne fun e => by
        rw [e] at hl
        cases hl
theorem comb_few : ∀ k m lo : Nat, (combF k m lo).length ≤ 2 ^ m
  | 0, m, lo => by
    rw [comb_zero]
    exact Nat.one_le_two_pow
  | k + 1, 0, lo => Nat.zero_le _
  | k + 1, m + 1, lo => by
    show ((combF k m (lo + 1)).map (lo :: ·) ++ combF (k + 1) m (lo + 1)).length ≤ _
    rw [List.length_append, List.length_map, Nat.pow_succ]
    have := comb_few k m (lo + 1)
    have := comb_few (k + 1) m (lo + 1)
    omega
/-! ### too many gone: no more groups than gone -/
theorem leftP_few {n : Nat} {js : List Nat} (nd : js.Nodup) (rg : ∀ j ∈ js, j < n) : (leftP n (ofN js)).length + js.length ≤ n := by
  have h := nodup_le (leftP n (ofN js) ++ ofN js) (upTo n) ?_ ?_
  · rw [upTo_len, List.length_append] at h
    unfold ofN at h
    rw [List.length_map] at h
    unfold ofN
    exact h
  · refine List.nodup_append.mpr ⟨(leftP_lt n _).imp fun h => by omega, ?_, fun x hx y hy e => ?_⟩
    · unfold ofN
      unfold List.Nodup
      rw [List.pairwise_map]
      exact nd.imp fun h e => h (by omega)
    · unfold leftP at hx
      rw [List.mem_filter] at hx
      simp only [Bool.not_eq_true', decide_eq_false_iff_not] at hx
      exact hx.2 (e ▸ hy)
  · intro x hx
    rcases List.mem_append.mp hx with h | h
    · unfold leftP at h
      exact (List.mem_filter.mp h).1
    · unfold ofN at h
      obtain ⟨j, hj, rfl⟩ := List.mem_map.mp h
      have := rg j hj
      unfold upTo
      exact List.mem_map.mpr ⟨j, List.mem_range.mpr this, rfl⟩
theorem groups_few (n : Nat) (ps : List (Int × Int)) (gone : List Int) : (groupsOf n ps gone).length ≤ (leftP n gone).length := by
  have ll : (leftP n gone).length ≤ n := by
    have := List.length_filter_le (fun x => !decide (x ∈ gone)) (upTo n)
    rwa [upTo_len] at this
  unfold groupsOf
  rw [groupsF_at ll]
  exact groupsF_len _ _
theorem partIn_big {n : Nat} {ps : List (Int × Int)} {k : Nat} (h : (n + 1) / 2 ≤ k) : partIn n ps k = none := by
  unfold partIn
  refine List.find?_eq_none.mpr fun js hj => ?_
  obtain ⟨h1, h2, h3⟩ := (mem_combF k n 0 js).mp hj
  have := leftP_few (n := n) (js := js) (h2.imp fun h => by omega) fun j hj => by
    have := h3 j hj
    omega
  have := groups_few n ps (ofN js)
  simp only [decide_eq_true_eq]
  omega
theorem partGo_none {n : Nat} {ps : List (Int × Int)} : ∀ d k : Nat, (∀ j, k ≤ j → partIn n ps j = none) → partGo n ps d k = none
  | 0, k, h => rfl
  | d + 1, k, h => by
    rw [partGo_succ, h k (Nat.le_refl _)]
    exact partGo_none d (k + 1) fun j hj => h j (by omega)
theorem partGo_more {n : Nat} {ps : List (Int × Int)} (d : Nat) : ∀ c k : Nat, (∀ j, k + c ≤ j → partIn n ps j = none) → partGo n ps (c + d) k = partGo n ps c k
  | 0, k, h => by
    rw [Nat.zero_add]
    exact partGo_none d k fun j hj => h j (by omega)
  | c + 1, k, h => by
    rw [show c + 1 + d = c + d + 1 by omega, partGo_succ, partGo_succ, partGo_more d c (k + 1) fun j hj => h j (by omega)]
theorem partGo_len {n : Nat} {ps : List (Int × Int)} : ∀ {c k : Nat} {js : List Nat}, partGo n ps c k = some js → js.length < (groupsOf n ps (ofN js)).length
  | 0, k, js, h => by cases h
  | c + 1, k, js, h => by
    rw [partGo_succ] at h
    cases e : partIn n ps k with
    | none =>
      rw [e] at h
      exact partGo_len h
    | some ks =>
      rw [e] at h
      obtain rfl := Option.some.inj h
      unfold partIn at e
      have h0 := List.find?_some e
      have h1 := of_decide_eq_true h0
      have h2 := ((mem_combF k n 0 _).mp (List.mem_of_find?_eq_some e)).1
      omega
theorem parting_len {n : Nat} {ps : List (Int × Int)} {js : List Nat} (h : partingOf n ps = some js) : js.length < n := by
  have h1 := partGo_len h
  have h2 := groupsF_len (ps := ps) n (leftP n (ofN js))
  have h3 : (groupsOf n ps (ofN js)).length ≤ n := h2
  omega
theorem parting_all {n : Nat} (n1 : 1 ≤ n) (ps : List (Int × Int)) : partGo n ps (n - 1) 1 = partingOf n ps := by
  unfold partingOf
  obtain ⟨d, hd⟩ : ∃ d, n - 1 = (n + 1) / 2 - 1 + d := ⟨n - 1 - ((n + 1) / 2 - 1), by omega⟩
  rw [hd]
  exact partGo_more d _ _ fun j hj => partIn_big (by omega)
end DR

set_option Elab.async false
set_option linter.all false
set_option maxRecDepth 100000
set_option maxHeartbeats 4000000
namespace DR
open PySem PySem.Spec PyProof.Rows L2
/-! #### _law_told -/
def treeD : Tr → PyData
  | .few p => .tuple [.str "few", .int p]
  | .three p => .tuple [.str "three", .int p]
  | .ring w => .tuple [.str "ring", intsD w]
  | .tie a b x y => .tuple [.str "tie", .tuple [.int a, .int b], treeD x, treeD y]
  | .odd => .none
theorem okW_few : PyData.strOk "few" = true := by decide +kernel
theorem okW_three : PyData.strOk "three" = true := by decide +kernel
theorem okW_ring : PyData.strOk "ring" = true := by decide +kernel
theorem okW_tie : PyData.strOk "tie" = true := by decide +kernel
theorem okW_none : PyData.strOk "none" = true := by decide +kernel
theorem okW_small : PyData.strOk "small" = true := by decide +kernel
theorem okW_parted : PyData.strOk "parted" = true := by decide +kernel
theorem okW_cases : PyData.strOk "cases" = true := by decide +kernel
theorem okW_round : PyData.strOk "round" = true := by decide +kernel
theorem okW_stuck : PyData.strOk "stuck" = true := by decide +kernel
theorem TrF.datL {G H : Hp} : ∀ {x : Tr} {t : Addr}, TrF G H t x → DatL (fun a => G a = none) H (x.deep + 2) (.ref t) (treeD x)
  | .few p, t, h => DatL.tup (k := 1) h (by show 2 ≤ 1000; decide) (.cons (DatL.str _ okW_few) (.cons (DatL.int _) .nil))
  | .three p, t, h => DatL.tup (k := 1) h (by show 2 ≤ 1000; decide) (.cons (DatL.str _ okW_three) (.cons (DatL.int _) .nil))
  | .ring w, t, ⟨r, h1, h2, h3, h4⟩ => DatL.tup (k := 1) h1 (by show 2 ≤ 1000; decide) (.cons (DatL.str _ okW_ring) (.cons (h2.datL h3 (by omega)) .nil))
  | .tie a b x y, t, ⟨r, t1, t2, h1, h2, h3, h4⟩ => by
    have a1 := TrF.datL h3
    have a2 := TrF.datL h4
    have b0 : DatL (fun a => G a = none) H 1 (.ref r) (.tuple [.int a, .int b]) := DatL.tup (k := 0) h2 (by show 2 ≤ 1000; decide) (.cons (DatL.int _) (.cons (DatL.int _) .nil))
    exact DatL.tup (k := max x.deep y.deep + 2) h1 (by show 4 ≤ 1000; decide) (.cons (DatL.str _ okW_tie) (.cons (b0.up (by omega)) (.cons (a1.up (by omega)) (.cons (a2.up (by omega)) .nil))))
open Classical in
noncomputable def roundD (n : Nat) (ps : List (Int × Int)) : PyData := if n < 3 then .list [.str "none", .tuple [.str "small"]] else match leastOf n ps with
  | some os => .list [.str "round", intsD os]
  | none => match partingOf n ps with
    | some js => .list [.str "none", .tuple [.str "parted", intsD (ofN js)]]
    | none => .list [.str "none", .tuple [.str "cases", treeD (treeF n ps)]]
noncomputable def partD (n : Nat) (ps : List (Int × Int)) : PyData := match partingOf n ps with
  | some js => intsD (ofN js)
  | none => .list []
open Classical in
noncomputable def closD (n : Nat) (ps : List (Int × Int)) : PyData := if n < 3 ∨ leftOf n (ps ++ closedOf n ps) ≠ [] then .list [] else intsD ((openedOf n ps (upTo n)).getLast?.getD [])
noncomputable def toldD (n : Nat) (ps : List (Int × Int)) (os : List Int) : List PyData := [pairsD ps, pairsD (thinOf n ps), intsD ((gapsOf ps os).map fun i : Nat => (i : Int)), .list [.str (wordOf n ps (roundedOf ps os).2), pairsD (roundedOf ps os).1, intsD (roundedOf ps os).2], intsD (turnedOf os 0 0)] ++
  [pairsD (closedOf n ps), .list ((groupsOf n ps (os.take 2)).map intsD), .list [.int ((countedOf n ps : Nat) : Int), .str (textOf n ps)]] ++ [roundD n ps] ++ [closD n ps, partD n ps]
theorem goes_lens (ps : List (Int × Int)) : ∀ (k : Nat) (os : List Int), (goes ps k os).1.length ≤ k ∧ (goes ps k os).2.length = os.length
  | 0, os => ⟨Nat.le_refl _, rfl⟩
  | k + 1, os => by
    cases e : firstTurning ps os with
    | none =>
      rw [goes_none e]
      exact ⟨by simp, rfl⟩
    | some q =>
      obtain ⟨a, b⟩ := q
      rw [goes_some e]
      obtain ⟨h1, h2⟩ := goes_lens ps k (turnedOf os a b)
      exact ⟨by simp; omega, by rw [← (turned_perm os a b).length_eq]; exact h2⟩
theorem groupsF_each {ps : List (Int × Int)} : ∀ (f : Nat) (L : List Int), ∀ g ∈ groupsF ps f L, g.length ≤ L.length
  | 0, L, g, h => by cases h
  | f + 1, [], g, h => by cases h
  | f + 1, a :: l, g, h => by
    rcases List.mem_cons.mp (show g ∈ compOf ps (a :: l) a :: groupsF ps f ((a :: l).filter fun x => !decide (x ∈ compOf ps (a :: l) a)) from h) with e | e
    · rw [e]
      unfold compOf
      exact List.length_filter_le _ _
    · have h1 := groupsF_each f _ g e
      have h2 := List.length_filter_le (fun x => !decide (x ∈ compOf ps (a :: l) a)) (a :: l)
      omega
theorem groups_each {n : Nat} {ps : List (Int × Int)} {gone : List Int} : ∀ g ∈ groupsOf n ps gone, g.length ≤ n := fun g h => by
  have h1 := groupsF_each n (leftP n gone) g h
  have h2 := List.length_filter_le (fun x => !decide (x ∈ gone)) (upTo n)
  rw [upTo_len] at h2
  exact Nat.le_trans h1 h2
theorem ords_datL {N : Addr → Prop} {H : Hp} : ∀ {as : List Addr} {oss : List (List Int)}, OrdsAs H as oss → (∀ a ∈ as, N a) → (∀ os ∈ oss, os.length ≤ 1000) → Paired (DatL N H 1) (as.map V.ref) (oss.map intsD)
  | _, _, .nil, _, _ => .nil
  | _, _, .cons r t, hn, hl => .cons (OrdAt.datL r (hn _ (by simp)) (hl _ (by simp))) (ords_datL t (fun a ha => hn a (List.mem_cons_of_mem _ ha)) fun os ho => hl os (List.mem_cons_of_mem _ ho))
theorem DatL.apart {N : Addr → Prop} {H : Hp} {F : Addr} (nF : H F = none) : ∀ {k : Nat} {v : V} {d : PyData}, DatL N H k v d → DatL (fun a => N a ∧ a ≠ F) H k v d
  | 0, _, _, h => h
  | k + 1, v, d, h => by
    rcases h with h | ⟨a, xs, ds, h1, h2, h3, h4⟩
    · exact .inl h
    · exact .inr ⟨a, xs, ds, h1, h2.elim (fun h => .inl ⟨⟨h.1, fun e => by rw [← e, h.2.1] at nF; cases nF⟩, h.2⟩) .inr, h3, Paired.mapP h4 fun a b h => DatL.apart nF h⟩
theorem DatL.put {N : Addr → Prop} {H : Hp} {F : Addr} {xs0 ys : List V} (n : ∀ a, N a → a ≠ F) (eF : H F = some (.lst xs0)) : ∀ {k : Nat} {v : V} {d : PyData}, DatL N H k v d → DatL N (upd H F (.lst ys)) k v d
  | 0, _, _, h => h
  | k + 1, v, d, h => by
    rcases h with h | ⟨a, xs, ds, h1, h2, h3, h4⟩
    · exact .inl h
    · exact .inr ⟨a, xs, ds, h1, h2.elim (fun h => .inl ⟨h.1, (upd_ne (n a h.1)).trans h.2.1, h.2.2⟩) (fun h => .inr ⟨(upd_ne (ne_of h.1 eF (by intro z; cases z))).trans h.1, h.2⟩), h3, Paired.mapP h4 fun a b h => DatL.put n eF h⟩
section
variable {P : Program} {w : World} {K : PySem.W.Frag} {mg : Str → Option Value} {base : Heap} {C : Addr}
def spTold (C : Addr) : Sp := fun vs H Q _ => ∃ (y o : Addr) (n : Nat) (ps : List (Int × Int)) (os : List Int), vs = [.ref y, .ref o] ∧ YardAt C H y n ps ∧ Ties n ps ∧ OrdAt H o os ∧ IsOrd n os ∧ 2 ≤ n ∧ n ≤ 12 ∧
  ∀ H' r, Same H H' → DatL (fun a => H a = none) H' 77 (.ref r) (.list (toldD n ps os)) → Q (.ref r) H'
abbrev nTold : List Str := ["_law_yard_here", "_law_order", "_law_found", "_law_one"]
theorem scTold : FnScope nTold ["_law_yard_here", "_law_order"] (defScope s__law_told) := ⟨rfl, rfl, rfl, by decide +kernel, rfl, by decide +kernel, by decide +kernel⟩
theorem has_told (D : IsDef K mg "_law_told" s__law_told) (B : Blt mg) (T : YTxt K mg C) (TI : HasM P w K mg base C 1 "ties" ["self"] (spTies C)) (TH : Has P w K mg base 3 "thin" ["yard"] (spThin C)) (GP : Has P w K mg base 3 "gaps" ["yard", "order"] (spGaps C)) (RD : Has P w K mg base 5 "rounded" ["yard", "order"] (spRounded C))
    (TU : Has P w K mg base 3 "turned" ["yard", "order", "at", "back"] (spTurned C)) (CL : Has P w K mg base 3 "closed" ["yard"] (spClosed C)) (GW : Has P w K mg base 3 "groups_without" ["yard", "places"] (spGroups C)) (CO : Has P w K mg base 14 "counted" ["yard"] (spCounted C)) (WR : Has P w K mg base 2 "written" ["yard"] (spWritten C))
    (RO : Has P w K mg base 79 "round_of" ["yard"] (spRoundF C)) (BC : Has P w K mg base 6 "by_closing" ["yard"] (spByClosing C)) (PA : Has P w K mg base 4 "parting" ["yard"] (spParting C)) : Has P w K mg base 80 "_law_told" ["_law_yard_here", "_law_order"] (spTold C) := by
  refine has_of D scTold (fun _ _ _ _ _ _ us hl => match us, hl with | [_, _], _ => rfl) (fun vs H Q E h => ?_) (fun f cdv A outer s H vs Q E hr h => ?_)
  · obtain ⟨y, o, n, ps, os, rfl, _⟩ := h
    rfl
  · obtain ⟨y, o, n, ps, os, rfl, hy, ti, ho, io, n2, n12, q⟩ := h
    refine ⟨_, pss_cons (ps_set (i := 2) scTold.nd rfl (.inl rfl) (pe_lst
          (pa_cons (pe_hasM0 (pv 0) T.cl TI hr (by decide))
          (pa_cons (pe_has TH hr (by decide) (by rfl) (pa_cons (pv 0) pa_nil))
          (pa_cons (pe_has GP hr (by decide) (by rfl) (pa_cons (pv 0) (pa_cons (pv 1) pa_nil)))
          (pa_cons (pe_callTy call_list_of (by rfl) B.list (by decide +kernel) (pa_cons (pe_has RD hr (by decide) (by rfl) (pa_cons (pv 0) (pa_cons (pv 1) pa_nil))) pa_nil))
          (pa_cons (pe_has TU hr (by decide) (by rfl) (pa_cons (pv 0) (pa_cons (pv 1) (pa_cons pe_int (pa_cons pe_int pa_nil))))) pa_nil)))))))
      (pss_cons (ps_set (i := 2) scTold.nd rfl (.inl rfl) (pe_op op_cat (pv 2) (pe_lst
          (pa_cons (pe_has CL hr (by decide) (by rfl) (pa_cons (pv 0) pa_nil))
          (pa_cons (pe_has GW hr (by decide) (by rfl) (pa_cons (pv 0) (pa_cons (pe_slice sl_list (pv 1) po_none (po_some pe_int)) pa_nil)))
          (pa_cons (pe_lst (pa_cons (pe_has CO hr (by decide) (by rfl) (pa_cons (pv 0) pa_nil)) (pa_cons (pe_has WR hr (by decide) (by rfl) (pa_cons (pv 0) pa_nil)) pa_nil))) pa_nil))))))
      (pss_cons (ps_set (i := 2) scTold.nd rfl (.inl rfl) (pe_op op_cat (pv 2) (pe_lst (pa_cons (pe_callTy call_list_of (by rfl) B.list (by decide +kernel) (pa_cons (pe_has RO hr (by decide) (by rfl) (pa_cons (pv 0) pa_nil)) pa_nil)) pa_nil))))
      (pss_cons (ps_for PassesOwn.never rfl (pi_list (pe_lst (pa_cons (pe_has BC hr (by decide) (by rfl) (pa_cons (pv 0) pa_nil)) (pa_cons (pe_has PA hr (by decide) (by rfl) (pa_cons (pv 0) pa_nil)) pa_nil)))) (pg_name (i := 3) scTold.nd rfl (.inl rfl))
        (pss_one (ps_expr (pe_bm PySem.F.plainAttrs_list PySem.F.slot_list_append PySem.F.type_list_append mt_append (pv 2) (pa_cons (pe_ifExp (pt_cmp (pc_isN (pv 3)) rfl) (pe_lst pa_nil) (pv 3)) pa_nil)))))
      (pss_one (ps_ret (pv 2)))))), ?_⟩
    have lo : os.length = n := io.len
    have l9 := ti.len900 (by omega : n ≤ 30)
    have c9 := ti.closed_len (by omega : n ≤ 30)
    have p9 := (Ties.all n).len900 (by omega : n ≤ 30)
    obtain ⟨dx, l0, td, dg, g1, g2, g3, g4⟩ := id hy
    refine ⟨_, rfl, y, dx, _, rfl, g1, look_no n l0 td dg (by decide +kernel) (by decide +kernel) (by decide +kernel) (by decide +kernel), y, n, ps, rfl, hy, fun Ha v1 sa n1 w1 => ?_⟩
    have f_n1 := Same.free (Same.refl H) n1
    replace hy := hy.same sa
    replace ho := ho.same sa
    have t1 := Same.trans (Same.refl H) sa
    have P0 : Paired (DatL (fun a => H a = none) Ha 76) [.ref v1] [pairsD ps] := .cons ((w1.datL f_n1 (by omega)).up (by omega)) .nil
    refine ⟨_, rfl, y, n, ps, rfl, hy, by omega, fun Hb v2 sb n2' w2 => ?_⟩
    have f_2 := Same.free t1 n2'
    replace hy := hy.same sb
    replace ho := ho.same sb
    replace P0 := Paired.mapP P0 fun _ _ h => h.same sb
    have t2 := Same.trans t1 sb
    have th9 : (thinOf n ps).length ≤ 900 := Nat.le_trans (List.length_filter_le _ _) p9
    replace P0 : Paired (DatL (fun a => H a = none) Hb 76) [.ref v1, .ref v2] [pairsD ps, pairsD (thinOf n ps)] := paired_app P0 (.cons ((w2.datL f_2 (by omega)).up (by omega)) .nil)
    refine ⟨_, rfl, _, rfl, y, o, n, ps, os, rfl, hy, ho, io, by omega, fun Hc v3 sc n3 w3 => ?_⟩
    have f_3 := Same.free t2 n3
    replace hy := hy.same sc
    replace ho := ho.same sc
    replace P0 := Paired.mapP P0 fun _ _ h => h.same sc
    have t3 := Same.trans t2 sc
    have ga9 := gaps_le ps os
    replace P0 : Paired (DatL (fun a => H a = none) Hc 76) [.ref v1, .ref v2, .ref v3] [pairsD ps, pairsD (thinOf n ps), intsD ((gapsOf ps os).map fun i : Nat => (i : Int))] := paired_app P0 (.cons ((w3.datL f_3 (by rw [List.length_map]; omega)).up (by omega)) .nil)
    refine ⟨_, rfl, _, rfl, y, o, n, ps, os, rfl, hy, ho, io, by omega, fun Hd u4 tl4 nl4 sd nu4 ntl4 nnl4 _ rn => ?_⟩
    have f_4t := Same.free t3 ntl4
    have f_4n := Same.free t3 nnl4
    replace hy := hy.same sd
    replace ho := ho.same sd
    replace P0 := Paired.mapP P0 fun _ _ h => h.same sd
    have t4 := Same.trans t3 sd
    obtain ⟨r1, r2, r3⟩ := rn
    obtain ⟨go1, go2⟩ := goes_lens ps (os.length + 1) os
    refine ⟨u4, _, rfl, .inr (SqT.of r1), fun v4 nv4 => ?_⟩
    have s5 := same_new (o := .lst [.str (wordOf n ps (roundedOf ps os).2), .ref tl4, .ref nl4]) nv4
    have ev4 : upd Hd v4 (.lst [.str (wordOf n ps (roundedOf ps os).2), .ref tl4, .ref nl4]) v4 = some (.lst [.str (wordOf n ps (roundedOf ps os).2), .ref tl4, .ref nl4]) := upd_same
    have fv4 := Same.free t4 nv4
    replace hy := hy.same s5
    replace ho := ho.same s5
    replace P0 := Paired.mapP P0 fun _ _ h => h.same s5
    replace r2 := r2.same s5
    replace r3 := r3.same s5
    have t5 := Same.trans t4 s5
    generalize upd Hd v4 (.lst [.str (wordOf n ps (roundedOf ps os).2), .ref tl4, .ref nl4]) = H5 at s5 ev4 hy ho P0 r2 r3 t5 ⊢
    have okw : PyData.strOk (wordOf n ps (roundedOf ps os).2) = true := by
      unfold wordOf
      split
      · exact okW_round
      · exact okW_stuck
    replace P0 : Paired (DatL (fun a => H a = none) H5 76) [.ref v1, .ref v2, .ref v3, .ref v4] [pairsD ps, pairsD (thinOf n ps), intsD ((gapsOf ps os).map fun i : Nat => (i : Int)), .list [.str (wordOf n ps (roundedOf ps os).2), pairsD (roundedOf ps os).1, intsD (roundedOf ps os).2]] := paired_app P0 (.cons ((DatL.lst (k := 2) ev4 fv4 (by show 3 ≤ 1000; decide) (.cons (DatL.str _ okw) (.cons (r2.datL f_4t (by show (goes ps (os.length + 1) os).1.length ≤ 1000; omega)) (.cons ((r3.datL f_4n (by show (goes ps (os.length + 1) os).2.length ≤ 1000; omega)).up (by omega)) .nil)))).up (by omega)) .nil)
    refine ⟨_, rfl, _, rfl, y, o, n, ps, os, 0, 0, rfl, hy, ho, io, by omega, by omega, by omega, fun He v5 se n5 w5 => ?_⟩
    have f_5 := Same.free t5 n5
    replace hy := hy.same se
    replace ho := ho.same se
    replace P0 := Paired.mapP P0 fun _ _ h => h.same se
    have t6 := Same.trans t5 se
    replace P0 : Paired (DatL (fun a => H a = none) He 76) [.ref v1, .ref v2, .ref v3, .ref v4, .ref v5] [pairsD ps, pairsD (thinOf n ps), intsD ((gapsOf ps os).map fun i : Nat => (i : Int)), .list [.str (wordOf n ps (roundedOf ps os).2), pairsD (roundedOf ps os).1, intsD (roundedOf ps os).2], intsD (turnedOf os 0 0)] := paired_app P0 (.cons ((w5.datL f_5 (by rw [(turned_perm os 0 0).length_eq]; omega)).up (by omega)) .nil)
    refine ⟨by show 5 ≤ sizeLine; decide, fun F0 nF0 => ?_⟩
    have s7 := same_new (o := .lst [.ref v1, .ref v2, .ref v3, .ref v4, .ref v5]) nF0
    have eF0 : upd He F0 (.lst [.ref v1, .ref v2, .ref v3, .ref v4, .ref v5]) F0 = some (.lst [.ref v1, .ref v2, .ref v3, .ref v4, .ref v5]) := upd_same
    have fF0 := Same.free t6 nF0
    replace hy := hy.same s7
    replace ho := ho.same s7
    replace P0 := Paired.mapP P0 fun _ _ h => h.same s7
    have t7 := Same.trans t6 s7
    generalize upd He F0 (.lst [.ref v1, .ref v2, .ref v3, .ref v4, .ref v5]) = H7 at s7 eF0 hy ho P0 t7 ⊢
    refine ⟨_, rfl, _, rfl, y, n, ps, rfl, hy, ti, by omega, fun Hf v6 sf n6 w6 => ?_⟩
    have f_6 := Same.free t7 n6
    replace hy := hy.same sf
    replace ho := ho.same sf
    replace P0 := Paired.mapP P0 fun _ _ h => h.same sf
    replace eF0 := sf _ _ eF0
    have t8 := Same.trans t7 sf
    replace P0 : Paired (DatL (fun a => H a = none) Hf 76) [.ref v1, .ref v2, .ref v3, .ref v4, .ref v5, .ref v6] [pairsD ps, pairsD (thinOf n ps), intsD ((gapsOf ps os).map fun i : Nat => (i : Int)), .list [.str (wordOf n ps (roundedOf ps os).2), pairsD (roundedOf ps os).1, intsD (roundedOf ps os).2], intsD (turnedOf os 0 0), pairsD (closedOf n ps)] := paired_app P0 (.cons ((w6.datL f_6 (by omega)).up (by omega)) .nil)
    refine ⟨_, rfl, _, rfl, _, rfl, o, _, rfl, ho.sq, fun c nc => ?_⟩
    have ec0 : cutV (os.map V.int) none (some 2) = (os.take 2).map V.int := by rw [show (some (2 : Int)) = some ((2 : Nat) : Int) from rfl, cut_to, List.map_take]
    rw [ec0]
    have s9 := same_new (o := .lst ((os.take 2).map V.int)) nc
    have ec : upd Hf c (.lst ((os.take 2).map V.int)) c = some (.lst ((os.take 2).map V.int)) := upd_same
    have fc := Same.free t8 nc
    replace hy := hy.same s9
    replace ho := ho.same s9
    replace P0 := Paired.mapP P0 fun _ _ h => h.same s9
    replace eF0 := s9 _ _ eF0
    have t9 := Same.trans t8 s9
    generalize upd Hf c (.lst ((os.take 2).map V.int)) = H9 at s9 ec hy ho P0 eF0 t9 ⊢
    refine ⟨y, c, n, ps, os.take 2, rfl, hy, .inl ec, by omega, fun Hg v7 as7 sg n7 e7 f7 o7 => ?_⟩
    have f_7 := Same.free t9 n7
    have f_7a : ∀ a ∈ as7, H a = none := fun a ha => Same.free t9 (f7 a ha).1
    replace hy := hy.same sg
    replace ho := ho.same sg
    replace P0 := Paired.mapP P0 fun _ _ h => h.same sg
    replace eF0 := sg _ _ eF0
    have t10 := Same.trans t9 sg
    have gl := groups_few n ps (os.take 2)
    have ll := List.length_filter_le (fun x => !decide (x ∈ os.take 2)) (upTo n)
    rw [upTo_len] at ll
    have lp : (leftP n (os.take 2)).length ≤ n := ll
    have la7 := o7.length
    replace P0 : Paired (DatL (fun a => H a = none) Hg 76) [.ref v1, .ref v2, .ref v3, .ref v4, .ref v5, .ref v6, .ref v7] [pairsD ps, pairsD (thinOf n ps), intsD ((gapsOf ps os).map fun i : Nat => (i : Int)), .list [.str (wordOf n ps (roundedOf ps os).2), pairsD (roundedOf ps os).1, intsD (roundedOf ps os).2], intsD (turnedOf os 0 0), pairsD (closedOf n ps), .list ((groupsOf n ps (os.take 2)).map intsD)] := paired_app P0 (.cons ((DatL.lst (k := 1) e7 f_7 (by rw [List.length_map]; omega) (ords_datL o7 f_7a fun g hg => Nat.le_trans (groups_each g hg) (by omega))).up (by omega)) .nil)
    refine ⟨_, rfl, y, n, ps, rfl, hy, by omega, n12, fun Hh sh => ?_⟩
    replace hy := hy.same sh
    replace ho := ho.same sh
    replace P0 := Paired.mapP P0 fun _ _ h => h.same sh
    replace eF0 := sh _ _ eF0
    have t11 := Same.trans t10 sh
    refine ⟨_, rfl, y, n, ps, rfl, hy, ti, by omega, fun Hi si => ?_⟩
    replace hy := hy.same si
    replace ho := ho.same si
    replace P0 := Paired.mapP P0 fun _ _ h => h.same si
    replace eF0 := si _ _ eF0
    have t12 := Same.trans t11 si
    refine ⟨by show 2 ≤ sizeLine; decide, fun v8 nv8 => ?_⟩
    have s13 := same_new (o := .lst [.int ((countedOf n ps : Nat) : Int), .str (textOf n ps)]) nv8
    have ev8 : upd Hi v8 (.lst [.int ((countedOf n ps : Nat) : Int), .str (textOf n ps)]) v8 = some (.lst [.int ((countedOf n ps : Nat) : Int), .str (textOf n ps)]) := upd_same
    have fv8 := Same.free t12 nv8
    replace hy := hy.same s13
    replace ho := ho.same s13
    replace P0 := Paired.mapP P0 fun _ _ h => h.same s13
    replace eF0 := s13 _ _ eF0
    have t13 := Same.trans t12 s13
    generalize upd Hi v8 (.lst [.int ((countedOf n ps : Nat) : Int), .str (textOf n ps)]) = H13 at s13 ev8 hy ho P0 eF0 t13 ⊢
    replace P0 : Paired (DatL (fun a => H a = none) H13 76) [.ref v1, .ref v2, .ref v3, .ref v4, .ref v5, .ref v6, .ref v7, .ref v8] [pairsD ps, pairsD (thinOf n ps), intsD ((gapsOf ps os).map fun i : Nat => (i : Int)), .list [.str (wordOf n ps (roundedOf ps os).2), pairsD (roundedOf ps os).1, intsD (roundedOf ps os).2], intsD (turnedOf os 0 0), pairsD (closedOf n ps), .list ((groupsOf n ps (os.take 2)).map intsD), .list [.int ((countedOf n ps : Nat) : Int), .str (textOf n ps)]] := paired_app P0 (.cons ((DatL.lst (k := 0) ev8 fv8 (by show 2 ≤ 1000; decide) (.cons (DatL.int _) (.cons (DatL.str _ (text_ok (by omega) ti)) .nil))).up (by omega)) .nil)
    refine ⟨by show 3 ≤ sizeLine; decide, fun F1 nF1 => ?_⟩
    have s14 := same_new (o := .lst [.ref v6, .ref v7, .ref v8]) nF1
    have eF1 : upd H13 F1 (.lst [.ref v6, .ref v7, .ref v8]) F1 = some (.lst [.ref v6, .ref v7, .ref v8]) := upd_same
    have fF1 := Same.free t13 nF1
    replace hy := hy.same s14
    replace ho := ho.same s14
    replace P0 := Paired.mapP P0 fun _ _ h => h.same s14
    replace eF0 := s14 _ _ eF0
    have t14 := Same.trans t13 s14
    generalize upd H13 F1 (.lst [.ref v6, .ref v7, .ref v8]) = H14 at s14 eF1 hy ho P0 eF0 t14 ⊢
    refine ⟨F0, F1, _, _, rfl, rfl, eF0, eF1, by rw [sizeLine_eq]; simp, fun F2 nF2 => ?_⟩
    have s15 := same_new (o := .lst ([.ref v1, .ref v2, .ref v3, .ref v4, .ref v5] ++ [.ref v6, .ref v7, .ref v8])) nF2
    have eF2 : upd H14 F2 (.lst ([.ref v1, .ref v2, .ref v3, .ref v4, .ref v5] ++ [.ref v6, .ref v7, .ref v8])) F2 = some (.lst ([.ref v1, .ref v2, .ref v3, .ref v4, .ref v5] ++ [.ref v6, .ref v7, .ref v8])) := upd_same
    have fF2 := Same.free t14 nF2
    replace hy := hy.same s15
    replace ho := ho.same s15
    replace P0 := Paired.mapP P0 fun _ _ h => h.same s15
    have t15 := Same.trans t14 s15
    generalize upd H14 F2 (.lst ([.ref v1, .ref v2, .ref v3, .ref v4, .ref v5] ++ [.ref v6, .ref v7, .ref v8])) = H15 at s15 eF2 hy ho P0 t15 ⊢
    refine ⟨_, rfl, _, rfl, y, n, ps, rfl, hy, ti, by omega, n12, fun Hj u9 sj nu9 ans => ?_⟩
    have tj := t15
    replace hy := hy.same sj
    replace ho := ho.same sj
    replace P0 := Paired.mapP P0 fun _ _ h => h.same sj
    replace eF2 := sj _ _ eF2
    have t16 := Same.trans t15 sj
    have key : ∃ xs9, Hj u9 = some (.tup xs9) ∧ xs9.length = 2 ∧ ∃ ds9, roundD n ps = .list ds9 ∧ Paired (DatL (fun a => H a = none) Hj 75) xs9 ds9 := by
      rcases ans with ⟨m2, p, e1, e2⟩ | ⟨m3, r, os', el, nr, e1, e2⟩ | ⟨m3, el, p, l, js, ep, nl, e1, e2, e3⟩ | ⟨m3, el, ep, p, c', e1, e2, e3⟩
      · refine ⟨_, e1, rfl, _, if_pos m2, .cons (DatL.str _ okW_none) (.cons ?_ .nil)⟩
        exact DatL.tup (k := 74) e2 (by show 1 ≤ 1000; decide) (.cons (DatL.str _ okW_small) .nil)
      · have l1 := (least_tour m3 el).1.len
        refine ⟨_, e1, rfl, _, (by unfold roundD; rw [if_neg (by omega), el]), .cons (DatL.str _ okW_round) (.cons ((e2.datL (tj.free nr) (by omega)).up (by omega)) .nil)⟩
      · have l1 := parting_len ep
        have l2 : (ofN js).length = js.length := by simp [ofN]
        refine ⟨_, e1, rfl, _, (by unfold roundD; rw [if_neg (by omega), el]; dsimp only; rw [ep]), .cons (DatL.str _ okW_none) (.cons ?_ .nil)⟩
        exact DatL.tup (k := 74) e2 (by show 2 ≤ 1000; decide) (.cons (DatL.str _ okW_parted) (.cons ((e3.datL (tj.free nl) (by omega)).up (by omega)) .nil))
      · refine ⟨_, e1, rfl, _, (by unfold roundD; rw [if_neg (by omega), el]; dsimp only; rw [ep]), .cons (DatL.str _ okW_none) (.cons ?_ .nil)⟩
        have dp : (treeF n ps).deep ≤ 72 := nodeF_deep n 72 _ _
        exact DatL.tup (k := 74) e2 (by show 2 ≤ 1000; decide) (.cons (DatL.str _ okW_cases) (.cons ((e3.datL.up (by omega)).imp fun a z => tj.free z) .nil))
    obtain ⟨xs9, e9, l9', ds9, er9, p9'⟩ := key
    refine ⟨u9, xs9, rfl, .inr (SqT.of e9), fun v9 nv9 => ?_⟩
    have s17 := same_new (o := .lst xs9) nv9
    have ev9 : upd Hj v9 (.lst xs9) v9 = some (.lst xs9) := upd_same
    have fv9 := Same.free t16 nv9
    replace hy := hy.same s17
    replace ho := ho.same s17
    replace P0 := Paired.mapP P0 fun _ _ h => h.same s17
    replace eF2 := s17 _ _ eF2
    replace p9' := Paired.mapP p9' fun _ _ h => h.same s17
    have t17 := Same.trans t16 s17
    generalize upd Hj v9 (.lst xs9) = H17 at s17 ev9 hy ho P0 eF2 p9' t17 ⊢
    replace P0 : Paired (DatL (fun a => H a = none) H17 76) [.ref v1, .ref v2, .ref v3, .ref v4, .ref v5, .ref v6, .ref v7, .ref v8, .ref v9] [pairsD ps, pairsD (thinOf n ps), intsD ((gapsOf ps os).map fun i : Nat => (i : Int)), .list [.str (wordOf n ps (roundedOf ps os).2), pairsD (roundedOf ps os).1, intsD (roundedOf ps os).2], intsD (turnedOf os 0 0), pairsD (closedOf n ps), .list ((groupsOf n ps (os.take 2)).map intsD), .list [.int ((countedOf n ps : Nat) : Int), .str (textOf n ps)], roundD n ps] := paired_app P0 (.cons ((by rw [er9]; exact DatL.lst (k := 75) ev9 fv9 (by omega) p9')) .nil)
    refine ⟨by show 1 ≤ sizeLine; decide, fun F3 nF3 => ?_⟩
    have s18 := same_new (o := .lst [.ref v9]) nF3
    have eF3 : upd H17 F3 (.lst [.ref v9]) F3 = some (.lst [.ref v9]) := upd_same
    have fF3 := Same.free t17 nF3
    replace hy := hy.same s18
    replace ho := ho.same s18
    replace P0 := Paired.mapP P0 fun _ _ h => h.same s18
    replace eF2 := s18 _ _ eF2
    have t18 := Same.trans t17 s18
    generalize upd H17 F3 (.lst [.ref v9]) = H18 at s18 eF3 hy ho P0 eF2 t18 ⊢
    refine ⟨F2, F3, _, _, rfl, rfl, eF2, eF3, by rw [sizeLine_eq]; simp, fun F nF => ?_⟩
    replace P0 := Paired.mapP P0 fun _ _ h => DatL.apart nF h
    have s19 := same_new (o := .lst ([.ref v1, .ref v2, .ref v3, .ref v4, .ref v5] ++ [.ref v6, .ref v7, .ref v8] ++ [.ref v9])) nF
    have eF : upd H18 F (.lst ([.ref v1, .ref v2, .ref v3, .ref v4, .ref v5] ++ [.ref v6, .ref v7, .ref v8] ++ [.ref v9])) F = some (.lst ([.ref v1, .ref v2, .ref v3, .ref v4, .ref v5] ++ [.ref v6, .ref v7, .ref v8] ++ [.ref v9])) := upd_same
    have fF := Same.free t18 nF
    replace hy := hy.same s19
    replace ho := ho.same s19
    replace P0 := Paired.mapP P0 fun _ _ h => h.same s19
    have t19 := Same.trans t18 s19
    generalize upd H18 F (.lst ([.ref v1, .ref v2, .ref v3, .ref v4, .ref v5] ++ [.ref v6, .ref v7, .ref v8] ++ [.ref v9])) = H19 at s19 eF hy ho P0 t19 ⊢
    have tF := t19
    have eFF := eF
    refine ⟨_, rfl, y, n, ps, rfl, hy, ti, by omega, by omega, fun Hk sk => ?_⟩
    have dec : ∀ (Hk' : Hp), Same H19 Hk' → ∀ v, ((n < 3 ∨ leftOf n (ps ++ closedOf n ps) ≠ []) ∧ v = V.non) ∨ (∃ r os', 3 ≤ n ∧ leftOf n (ps ++ closedOf n ps) = [] ∧ (openedOf n ps (upTo n)).getLast? = some os' ∧ H19 r = none ∧ OrdAt Hk' r os' ∧ v = V.ref r) → True := fun _ _ _ _ => trivial
    clear dec
    replace hy := hy.same sk
    replace ho := ho.same sk
    replace P0 := Paired.mapP P0 fun _ _ h => h.same sk
    replace eF := sk _ _ eF
    have t20 := Same.trans t19 sk
    have last : ∀ (v10 : V), ((v10 = V.non ∧ closD n ps = .list []) ∨ ∃ r, v10 = V.ref r ∧ DatL (fun a => H a = none ∧ a ≠ F) Hk 76 (.ref r) (closD n ps)) → (tHas (spParting C) (tCons (tVar 0) tNil)) (([some (.ref y), some (.ref o), some (.ref F), none] : L2.St)) Hk = (tHas (spParting C) (tCons (tVar 0) tNil)) (([some (.ref y), some (.ref o), some (.ref F), none] : L2.St)) Hk := fun _ _ => rfl
    clear last
    refine ⟨fun no => ?_, fun r os' m3 lf gl' nr er => ?_⟩
    · have i10 : ∀ v : V, v = V.non → ((v = V.non ∧ closD n ps = .list []) ∨ ∃ r, v = V.ref r ∧ DatL (fun a => H a = none ∧ a ≠ F) Hk 76 (.ref r) (closD n ps)) := fun v e => .inl ⟨e, if_pos no⟩
      generalize hv10 : V.non = v10
      replace i10 := i10 v10 hv10.symm
      refine ⟨_, rfl, y, n, ps, rfl, hy, n12, fun Hl sl => ?_⟩
      have i10' : ((v10 = V.non ∧ closD n ps = .list []) ∨ ∃ r, v10 = V.ref r ∧ DatL (fun a => H a = none ∧ a ≠ F) Hl 76 (.ref r) (closD n ps)) := i10.imp id fun ⟨r, h1, h2⟩ => ⟨r, h1, h2.same sl⟩
      have tl := Same.trans t20 sl
      replace hy := hy.same sl
      replace P0 := Paired.mapP P0 fun _ _ h => h.same sl
      replace eF := sl _ _ eF
      have t201 := Same.trans t20 sl
      refine ⟨fun no => ?_, fun r js ep nr er => ?_⟩
      · have i11 : ∀ v : V, v = V.non → ((v = V.non ∧ partD n ps = .list []) ∨ ∃ r, v = V.ref r ∧ DatL (fun a => H a = none ∧ a ≠ F) Hl 76 (.ref r) (partD n ps)) := fun v e => .inl ⟨e, by unfold partD; rw [no]⟩
        generalize hv11 : V.non = v11
        replace i11 := i11 v11 hv11.symm
        refine ⟨by show 2 ≤ sizeLine; decide, fun L nL => ?_⟩
        replace i10' : ((v10 = V.non ∧ closD n ps = .list []) ∨ ∃ r, v10 = V.ref r ∧ DatL (fun a => H a = none ∧ a ≠ F) (upd Hl L (.lst [v10, v11])) 76 (.ref r) (closD n ps)) := i10'.imp id fun ⟨r, h1, h2⟩ => ⟨r, h1, h2.same (same_new nL)⟩
        replace i11 : ((v11 = V.non ∧ partD n ps = .list []) ∨ ∃ r, v11 = V.ref r ∧ DatL (fun a => H a = none ∧ a ≠ F) (upd Hl L (.lst [v10, v11])) 76 (.ref r) (partD n ps)) := i11.imp id fun ⟨r, h1, h2⟩ => ⟨r, h1, h2.same (same_new nL)⟩
        have LF : L ≠ F := fun e => by rw [e, eF] at nL; cases nL
        have s301 := same_new (o := .lst [v10, v11]) nL
        have eL : upd Hl L (.lst [v10, v11]) L = some (.lst [v10, v11]) := upd_same
        have fL := Same.free t201 nL
        replace P0 := Paired.mapP P0 fun _ _ h => h.same s301
        replace eF := s301 _ _ eF
        have t301 := Same.trans t201 s301
        generalize upd Hl L (.lst [v10, v11]) = H301 at i10' i11 s301 eL P0 eF t301 ⊢
        refine ⟨L, rfl, ⟨_, SqL.of eL⟩, for_list (K := K) (a := L) (xs := [v10, v11]) (fun i σ H2 => ∃ (xs : List V) (x3 : Option V), σ = [some (.ref y), some (.ref o), some (.ref F), x3] ∧ Kp F H301 H2 ∧ H2 F = some (.lst xs) ∧ xs.length = 9 + i ∧ Paired (DatL (fun a => H a = none ∧ a ≠ F) H2 76) xs ([pairsD ps, pairsD (thinOf n ps), intsD ((gapsOf ps os).map fun i : Nat => (i : Int)), .list [.str (wordOf n ps (roundedOf ps os).2), pairsD (roundedOf ps os).1, intsD (roundedOf ps os).2], intsD (turnedOf os 0 0), pairsD (closedOf n ps), .list ((groupsOf n ps (os.take 2)).map intsD), .list [.int ((countedOf n ps : Nat) : Int), .str (textOf n ps)], roundD n ps] ++ [closD n ps, partD n ps].take i))
          ⟨_, none, rfl, Kp.refl _ _, eF, rfl, P0⟩ (fun i σ H2 _ ⟨_, _, _, k2, _⟩ => SqL.of (k2 _ _ LF eL)) ?_ ?_⟩
        · rintro i v σ H2 hv ⟨xs, x3, rfl, k2, e2, lx, p2⟩
          have sF2 : ∀ {k : Nat} {v : V} {d : PyData}, DatL (fun a => H a = none ∧ a ≠ F) H301 k v d → DatL (fun a => H a = none ∧ a ≠ F) H2 k v d := fun h => DatL.kpF (fun _ z => z.2) eF k2 h
          have it : ∃ d, [closD n ps, partD n ps][i]? = some d ∧ ((v = V.non ∧ d = .list []) ∨ ∃ r, v = V.ref r ∧ DatL (fun a => H a = none ∧ a ≠ F) H301 76 (.ref r) (d)) := by
            match i, hv with
            | 0, hv =>
              obtain rfl := Option.some.inj hv
              exact ⟨_, rfl, i10'⟩
            | 1, hv =>
              obtain rfl := Option.some.inj hv
              exact ⟨_, rfl, i11⟩
            | j + 2, hv => cases hv
          obtain ⟨d, hd, it⟩ := it
          have i2 : i < 2 := (List.getElem?_eq_some_iff.mp hv).1
          refine ⟨_, rfl, .inl ⟨rfl, _, SqL.of e2⟩, _, rfl, ?_⟩
          have tk : [closD n ps, partD n ps].take (i + 1) = [closD n ps, partD n ps].take i ++ [d] := by
            rw [List.take_succ, hd]
            rfl
          rcases it with ⟨rfl, rfl⟩ | ⟨r, rfl, hr2⟩
          · refine ⟨_, rfl, iteT ⟨by show 0 ≤ sizeLine; decide, fun z nz => ?_⟩⟩
            have sz := same_new (o := .lst []) nz
            have zF : z ≠ F := fun e => by rw [e, e2] at nz; cases nz
            have nzH : H z = none := (t301).free (nokp k2 eF e2 nz)
            have dz : DatL (fun a => H a = none ∧ a ≠ F) (upd H2 z (.lst [])) 76 (.ref z) (.list []) := DatL.lst upd_same ⟨nzH, zF⟩ (by show 0 ≤ 1000; decide) .nil
            refine ⟨F, _, _, rfl, rfl, sz _ _ e2, by rw [sizeLine_eq]; omega, xs ++ [.ref z], _, rfl, (k2.trans (Same.kp sz F)).trans (Kp.put _ _ _), upd_same, by rw [List.length_append, lx]; simp; omega, ?_⟩
            rw [tk, ← List.append_assoc]
            exact paired_app (Paired.mapP p2 fun _ _ h => DatL.put (fun _ z => z.2) (sz _ _ e2) (h.same sz)) (.cons (DatL.put (fun _ z => z.2) (sz _ _ e2) dz) .nil)
          · refine ⟨_, rfl, iteF ⟨_, rfl, ?_⟩⟩
            refine ⟨F, _, _, rfl, rfl, e2, by rw [sizeLine_eq]; omega, xs ++ [.ref r], _, rfl, k2.trans (Kp.put _ _ _), upd_same, by rw [List.length_append, lx]; simp; omega, ?_⟩
            rw [tk, ← List.append_assoc]
            exact paired_app (Paired.mapP p2 fun _ _ h => DatL.put (fun _ z => z.2) e2 h) (.cons (DatL.put (fun _ z => z.2) e2 (sF2 hr2)) .nil)
        · rintro σ H2 ⟨xs, x3, rfl, k2, e2, lx, p2⟩
          refine ⟨_, rfl, q H2 F (fun c o' e => k2 c o' (fun z => by rw [z, fF] at e; cases e) ((t301) _ _ e)) ?_⟩
          have p3 : Paired (DatL (fun a => H a = none ∧ a ≠ F) H2 76) xs (toldD n ps os) := p2
          exact DatL.lst (k := 76) e2 fF (by rw [lx]; show 11 ≤ 1000; decide) (Paired.mapP p3 fun _ _ h => h.imp fun _ z => z.1)
      · have l1 := parting_len ep
        have l2 : (ofN js).length = js.length := by simp [ofN]
        have eFk := sk _ _ eFF
        have rF : r ≠ F := fun e => by rw [e, eFk] at nr; cases nr
        have i11 : ∀ v : V, v = V.ref r → ((v = V.non ∧ partD n ps = .list []) ∨ ∃ r, v = V.ref r ∧ DatL (fun a => H a = none ∧ a ≠ F) Hl 76 (.ref r) (partD n ps)) := fun v e => .inr ⟨r, e, by unfold partD; rw [ep]; exact (er.datL ⟨(tF.trans sk).free nr, rF⟩ (by omega)).up (by omega)⟩
        generalize hv11 : V.ref r = v11
        replace i11 := i11 v11 hv11.symm
        refine ⟨by show 2 ≤ sizeLine; decide, fun L nL => ?_⟩
        replace i10' : ((v10 = V.non ∧ closD n ps = .list []) ∨ ∃ r, v10 = V.ref r ∧ DatL (fun a => H a = none ∧ a ≠ F) (upd Hl L (.lst [v10, v11])) 76 (.ref r) (closD n ps)) := i10'.imp id fun ⟨r, h1, h2⟩ => ⟨r, h1, h2.same (same_new nL)⟩
        replace i11 : ((v11 = V.non ∧ partD n ps = .list []) ∨ ∃ r, v11 = V.ref r ∧ DatL (fun a => H a = none ∧ a ≠ F) (upd Hl L (.lst [v10, v11])) 76 (.ref r) (partD n ps)) := i11.imp id fun ⟨r, h1, h2⟩ => ⟨r, h1, h2.same (same_new nL)⟩
        have LF : L ≠ F := fun e => by rw [e, eF] at nL; cases nL
        have s301 := same_new (o := .lst [v10, v11]) nL
        have eL : upd Hl L (.lst [v10, v11]) L = some (.lst [v10, v11]) := upd_same
        have fL := Same.free t201 nL
        replace P0 := Paired.mapP P0 fun _ _ h => h.same s301
        replace eF := s301 _ _ eF
        have t301 := Same.trans t201 s301
        generalize upd Hl L (.lst [v10, v11]) = H301 at i10' i11 s301 eL P0 eF t301 ⊢
        refine ⟨L, rfl, ⟨_, SqL.of eL⟩, for_list (K := K) (a := L) (xs := [v10, v11]) (fun i σ H2 => ∃ (xs : List V) (x3 : Option V), σ = [some (.ref y), some (.ref o), some (.ref F), x3] ∧ Kp F H301 H2 ∧ H2 F = some (.lst xs) ∧ xs.length = 9 + i ∧ Paired (DatL (fun a => H a = none ∧ a ≠ F) H2 76) xs ([pairsD ps, pairsD (thinOf n ps), intsD ((gapsOf ps os).map fun i : Nat => (i : Int)), .list [.str (wordOf n ps (roundedOf ps os).2), pairsD (roundedOf ps os).1, intsD (roundedOf ps os).2], intsD (turnedOf os 0 0), pairsD (closedOf n ps), .list ((groupsOf n ps (os.take 2)).map intsD), .list [.int ((countedOf n ps : Nat) : Int), .str (textOf n ps)], roundD n ps] ++ [closD n ps, partD n ps].take i))
          ⟨_, none, rfl, Kp.refl _ _, eF, rfl, P0⟩ (fun i σ H2 _ ⟨_, _, _, k2, _⟩ => SqL.of (k2 _ _ LF eL)) ?_ ?_⟩
        · rintro i v σ H2 hv ⟨xs, x3, rfl, k2, e2, lx, p2⟩
          have sF2 : ∀ {k : Nat} {v : V} {d : PyData}, DatL (fun a => H a = none ∧ a ≠ F) H301 k v d → DatL (fun a => H a = none ∧ a ≠ F) H2 k v d := fun h => DatL.kpF (fun _ z => z.2) eF k2 h
          have it : ∃ d, [closD n ps, partD n ps][i]? = some d ∧ ((v = V.non ∧ d = .list []) ∨ ∃ r, v = V.ref r ∧ DatL (fun a => H a = none ∧ a ≠ F) H301 76 (.ref r) (d)) := by
            match i, hv with
            | 0, hv =>
              obtain rfl := Option.some.inj hv
              exact ⟨_, rfl, i10'⟩
            | 1, hv =>
              obtain rfl := Option.some.inj hv
              exact ⟨_, rfl, i11⟩
            | j + 2, hv => cases hv
          obtain ⟨d, hd, it⟩ := it
          have i2 : i < 2 := (List.getElem?_eq_some_iff.mp hv).1
          refine ⟨_, rfl, .inl ⟨rfl, _, SqL.of e2⟩, _, rfl, ?_⟩
          have tk : [closD n ps, partD n ps].take (i + 1) = [closD n ps, partD n ps].take i ++ [d] := by
            rw [List.take_succ, hd]
            rfl
          rcases it with ⟨rfl, rfl⟩ | ⟨r, rfl, hr2⟩
          · refine ⟨_, rfl, iteT ⟨by show 0 ≤ sizeLine; decide, fun z nz => ?_⟩⟩
            have sz := same_new (o := .lst []) nz
            have zF : z ≠ F := fun e => by rw [e, e2] at nz; cases nz
            have nzH : H z = none := (t301).free (nokp k2 eF e2 nz)
            have dz : DatL (fun a => H a = none ∧ a ≠ F) (upd H2 z (.lst [])) 76 (.ref z) (.list []) := DatL.lst upd_same ⟨nzH, zF⟩ (by show 0 ≤ 1000; decide) .nil
            refine ⟨F, _, _, rfl, rfl, sz _ _ e2, by rw [sizeLine_eq]; omega, xs ++ [.ref z], _, rfl, (k2.trans (Same.kp sz F)).trans (Kp.put _ _ _), upd_same, by rw [List.length_append, lx]; simp; omega, ?_⟩
            rw [tk, ← List.append_assoc]
            exact paired_app (Paired.mapP p2 fun _ _ h => DatL.put (fun _ z => z.2) (sz _ _ e2) (h.same sz)) (.cons (DatL.put (fun _ z => z.2) (sz _ _ e2) dz) .nil)
          · refine ⟨_, rfl, iteF ⟨_, rfl, ?_⟩⟩
            refine ⟨F, _, _, rfl, rfl, e2, by rw [sizeLine_eq]; omega, xs ++ [.ref r], _, rfl, k2.trans (Kp.put _ _ _), upd_same, by rw [List.length_append, lx]; simp; omega, ?_⟩
            rw [tk, ← List.append_assoc]
            exact paired_app (Paired.mapP p2 fun _ _ h => DatL.put (fun _ z => z.2) e2 h) (.cons (DatL.put (fun _ z => z.2) e2 (sF2 hr2)) .nil)
        · rintro σ H2 ⟨xs, x3, rfl, k2, e2, lx, p2⟩
          refine ⟨_, rfl, q H2 F (fun c o' e => k2 c o' (fun z => by rw [z, fF] at e; cases e) ((t301) _ _ e)) ?_⟩
          have p3 : Paired (DatL (fun a => H a = none ∧ a ≠ F) H2 76) xs (toldD n ps os) := p2
          exact DatL.lst (k := 76) e2 fF (by rw [lx]; show 11 ≤ 1000; decide) (Paired.mapP p3 fun _ _ h => h.imp fun _ z => z.1)
    · have l1 := (opened_last ti m3 (show IsOrd n (upTo n) from List.Perm.refl _) (all_round m3 lf) gl').1.len
      have rF : r ≠ F := fun e => by rw [e, eFF] at nr; cases nr
      have i10 : ∀ v : V, v = V.ref r → ((v = V.non ∧ closD n ps = .list []) ∨ ∃ r, v = V.ref r ∧ DatL (fun a => H a = none ∧ a ≠ F) Hk 76 (.ref r) (closD n ps)) := fun v e => .inr ⟨r, e, by unfold closD; rw [if_neg (by intro z; rcases z with z | z; omega; exact z lf), gl']; exact (er.datL ⟨tF.free nr, rF⟩ (by omega)).up (by omega)⟩
      generalize hv10 : V.ref r = v10
      replace i10 := i10 v10 hv10.symm
      refine ⟨_, rfl, y, n, ps, rfl, hy, n12, fun Hl sl => ?_⟩
      have i10' : ((v10 = V.non ∧ closD n ps = .list []) ∨ ∃ r, v10 = V.ref r ∧ DatL (fun a => H a = none ∧ a ≠ F) Hl 76 (.ref r) (closD n ps)) := i10.imp id fun ⟨r, h1, h2⟩ => ⟨r, h1, h2.same sl⟩
      have tl := Same.trans t20 sl
      replace hy := hy.same sl
      replace P0 := Paired.mapP P0 fun _ _ h => h.same sl
      replace eF := sl _ _ eF
      have t201 := Same.trans t20 sl
      refine ⟨fun no => ?_, fun r js ep nr er => ?_⟩
      · have i11 : ∀ v : V, v = V.non → ((v = V.non ∧ partD n ps = .list []) ∨ ∃ r, v = V.ref r ∧ DatL (fun a => H a = none ∧ a ≠ F) Hl 76 (.ref r) (partD n ps)) := fun v e => .inl ⟨e, by unfold partD; rw [no]⟩
        generalize hv11 : V.non = v11
        replace i11 := i11 v11 hv11.symm
        refine ⟨by show 2 ≤ sizeLine; decide, fun L nL => ?_⟩
        replace i10' : ((v10 = V.non ∧ closD n ps = .list []) ∨ ∃ r, v10 = V.ref r ∧ DatL (fun a => H a = none ∧ a ≠ F) (upd Hl L (.lst [v10, v11])) 76 (.ref r) (closD n ps)) := i10'.imp id fun ⟨r, h1, h2⟩ => ⟨r, h1, h2.same (same_new nL)⟩
        replace i11 : ((v11 = V.non ∧ partD n ps = .list []) ∨ ∃ r, v11 = V.ref r ∧ DatL (fun a => H a = none ∧ a ≠ F) (upd Hl L (.lst [v10, v11])) 76 (.ref r) (partD n ps)) := i11.imp id fun ⟨r, h1, h2⟩ => ⟨r, h1, h2.same (same_new nL)⟩
        have LF : L ≠ F := fun e => by rw [e, eF] at nL; cases nL
        have s301 := same_new (o := .lst [v10, v11]) nL
        have eL : upd Hl L (.lst [v10, v11]) L = some (.lst [v10, v11]) := upd_same
        have fL := Same.free t201 nL
        replace P0 := Paired.mapP P0 fun _ _ h => h.same s301
        replace eF := s301 _ _ eF
        have t301 := Same.trans t201 s301
        generalize upd Hl L (.lst [v10, v11]) = H301 at i10' i11 s301 eL P0 eF t301 ⊢
        refine ⟨L, rfl, ⟨_, SqL.of eL⟩, for_list (K := K) (a := L) (xs := [v10, v11]) (fun i σ H2 => ∃ (xs : List V) (x3 : Option V), σ = [some (.ref y), some (.ref o), some (.ref F), x3] ∧ Kp F H301 H2 ∧ H2 F = some (.lst xs) ∧ xs.length = 9 + i ∧ Paired (DatL (fun a => H a = none ∧ a ≠ F) H2 76) xs ([pairsD ps, pairsD (thinOf n ps), intsD ((gapsOf ps os).map fun i : Nat => (i : Int)), .list [.str (wordOf n ps (roundedOf ps os).2), pairsD (roundedOf ps os).1, intsD (roundedOf ps os).2], intsD (turnedOf os 0 0), pairsD (closedOf n ps), .list ((groupsOf n ps (os.take 2)).map intsD), .list [.int ((countedOf n ps : Nat) : Int), .str (textOf n ps)], roundD n ps] ++ [closD n ps, partD n ps].take i))
          ⟨_, none, rfl, Kp.refl _ _, eF, rfl, P0⟩ (fun i σ H2 _ ⟨_, _, _, k2, _⟩ => SqL.of (k2 _ _ LF eL)) ?_ ?_⟩
        · rintro i v σ H2 hv ⟨xs, x3, rfl, k2, e2, lx, p2⟩
          have sF2 : ∀ {k : Nat} {v : V} {d : PyData}, DatL (fun a => H a = none ∧ a ≠ F) H301 k v d → DatL (fun a => H a = none ∧ a ≠ F) H2 k v d := fun h => DatL.kpF (fun _ z => z.2) eF k2 h
          have it : ∃ d, [closD n ps, partD n ps][i]? = some d ∧ ((v = V.non ∧ d = .list []) ∨ ∃ r, v = V.ref r ∧ DatL (fun a => H a = none ∧ a ≠ F) H301 76 (.ref r) (d)) := by
            match i, hv with
            | 0, hv =>
              obtain rfl := Option.some.inj hv
              exact ⟨_, rfl, i10'⟩
            | 1, hv =>
              obtain rfl := Option.some.inj hv
              exact ⟨_, rfl, i11⟩
            | j + 2, hv => cases hv
          obtain ⟨d, hd, it⟩ := it
          have i2 : i < 2 := (List.getElem?_eq_some_iff.mp hv).1
          refine ⟨_, rfl, .inl ⟨rfl, _, SqL.of e2⟩, _, rfl, ?_⟩
          have tk : [closD n ps, partD n ps].take (i + 1) = [closD n ps, partD n ps].take i ++ [d] := by
            rw [List.take_succ, hd]
            rfl
          rcases it with ⟨rfl, rfl⟩ | ⟨r, rfl, hr2⟩
          · refine ⟨_, rfl, iteT ⟨by show 0 ≤ sizeLine; decide, fun z nz => ?_⟩⟩
            have sz := same_new (o := .lst []) nz
            have zF : z ≠ F := fun e => by rw [e, e2] at nz; cases nz
            have nzH : H z = none := (t301).free (nokp k2 eF e2 nz)
            have dz : DatL (fun a => H a = none ∧ a ≠ F) (upd H2 z (.lst [])) 76 (.ref z) (.list []) := DatL.lst upd_same ⟨nzH, zF⟩ (by show 0 ≤ 1000; decide) .nil
            refine ⟨F, _, _, rfl, rfl, sz _ _ e2, by rw [sizeLine_eq]; omega, xs ++ [.ref z], _, rfl, (k2.trans (Same.kp sz F)).trans (Kp.put _ _ _), upd_same, by rw [List.length_append, lx]; simp; omega, ?_⟩
            rw [tk, ← List.append_assoc]
            exact paired_app (Paired.mapP p2 fun _ _ h => DatL.put (fun _ z => z.2) (sz _ _ e2) (h.same sz)) (.cons (DatL.put (fun _ z => z.2) (sz _ _ e2) dz) .nil)
          · refine ⟨_, rfl, iteF ⟨_, rfl, ?_⟩⟩
            refine ⟨F, _, _, rfl, rfl, e2, by rw [sizeLine_eq]; omega, xs ++ [.ref r], _, rfl, k2.trans (Kp.put _ _ _), upd_same, by rw [List.length_append, lx]; simp; omega, ?_⟩
            rw [tk, ← List.append_assoc]
            exact paired_app (Paired.mapP p2 fun _ _ h => DatL.put (fun _ z => z.2) e2 h) (.cons (DatL.put (fun _ z => z.2) e2 (sF2 hr2)) .nil)
        · rintro σ H2 ⟨xs, x3, rfl, k2, e2, lx, p2⟩
          refine ⟨_, rfl, q H2 F (fun c o' e => k2 c o' (fun z => by rw [z, fF] at e; cases e) ((t301) _ _ e)) ?_⟩
          have p3 : Paired (DatL (fun a => H a = none ∧ a ≠ F) H2 76) xs (toldD n ps os) := p2
          exact DatL.lst (k := 76) e2 fF (by rw [lx]; show 11 ≤ 1000; decide) (Paired.mapP p3 fun _ _ h => h.imp fun _ z => z.1)
      · have l1 := parting_len ep
        have l2 : (ofN js).length = js.length := by simp [ofN]
        have eFk := sk _ _ eFF
        have rF : r ≠ F := fun e => by rw [e, eFk] at nr; cases nr
        have i11 : ∀ v : V, v = V.ref r → ((v = V.non ∧ partD n ps = .list []) ∨ ∃ r, v = V.ref r ∧ DatL (fun a => H a = none ∧ a ≠ F) Hl 76 (.ref r) (partD n ps)) := fun v e => .inr ⟨r, e, by unfold partD; rw [ep]; exact (er.datL ⟨(tF.trans sk).free nr, rF⟩ (by omega)).up (by omega)⟩
        generalize hv11 : V.ref r = v11
        replace i11 := i11 v11 hv11.symm
        refine ⟨by show 2 ≤ sizeLine; decide, fun L nL => ?_⟩
        replace i10' : ((v10 = V.non ∧ closD n ps = .list []) ∨ ∃ r, v10 = V.ref r ∧ DatL (fun a => H a = none ∧ a ≠ F) (upd Hl L (.lst [v10, v11])) 76 (.ref r) (closD n ps)) := i10'.imp id fun ⟨r, h1, h2⟩ => ⟨r, h1, h2.same (same_new nL)⟩
        replace i11 : ((v11 = V.non ∧ partD n ps = .list []) ∨ ∃ r, v11 = V.ref r ∧ DatL (fun a => H a = none ∧ a ≠ F) (upd Hl L (.lst [v10, v11])) 76 (.ref r) (partD n ps)) := i11.imp id fun ⟨r, h1, h2⟩ => ⟨r, h1, h2.same (same_new nL)⟩
        have LF : L ≠ F := fun e => by rw [e, eF] at nL; cases nL
        have s301 := same_new (o := .lst [v10, v11]) nL
        have eL : upd Hl L (.lst [v10, v11]) L = some (.lst [v10, v11]) := upd_same
        have fL := Same.free t201 nL
        replace P0 := Paired.mapP P0 fun _ _ h => h.same s301
        replace eF := s301 _ _ eF
        have t301 := Same.trans t201 s301
        generalize upd Hl L (.lst [v10, v11]) = H301 at i10' i11 s301 eL P0 eF t301 ⊢
        refine ⟨L, rfl, ⟨_, SqL.of eL⟩, for_list (K := K) (a := L) (xs := [v10, v11]) (fun i σ H2 => ∃ (xs : List V) (x3 : Option V), σ = [some (.ref y), some (.ref o), some (.ref F), x3] ∧ Kp F H301 H2 ∧ H2 F = some (.lst xs) ∧ xs.length = 9 + i ∧ Paired (DatL (fun a => H a = none ∧ a ≠ F) H2 76) xs ([pairsD ps, pairsD (thinOf n ps), intsD ((gapsOf ps os).map fun i : Nat => (i : Int)), .list [.str (wordOf n ps (roundedOf ps os).2), pairsD (roundedOf ps os).1, intsD (roundedOf ps os).2], intsD (turnedOf os 0 0), pairsD (closedOf n ps), .list ((groupsOf n ps (os.take 2)).map intsD), .list [.int ((countedOf n ps : Nat) : Int), .str (textOf n ps)], roundD n ps] ++ [closD n ps, partD n ps].take i))
          ⟨_, none, rfl, Kp.refl _ _, eF, rfl, P0⟩ (fun i σ H2 _ ⟨_, _, _, k2, _⟩ => SqL.of (k2 _ _ LF eL)) ?_ ?_⟩
        · rintro i v σ H2 hv ⟨xs, x3, rfl, k2, e2, lx, p2⟩
          have sF2 : ∀ {k : Nat} {v : V} {d : PyData}, DatL (fun a => H a = none ∧ a ≠ F) H301 k v d → DatL (fun a => H a = none ∧ a ≠ F) H2 k v d := fun h => DatL.kpF (fun _ z => z.2) eF k2 h
          have it : ∃ d, [closD n ps, partD n ps][i]? = some d ∧ ((v = V.non ∧ d = .list []) ∨ ∃ r, v = V.ref r ∧ DatL (fun a => H a = none ∧ a ≠ F) H301 76 (.ref r) (d)) := by
            match i, hv with
            | 0, hv =>
              obtain rfl := Option.some.inj hv
              exact ⟨_, rfl, i10'⟩
            | 1, hv =>
              obtain rfl := Option.some.inj hv
              exact ⟨_, rfl, i11⟩
            | j + 2, hv => cases hv
          obtain ⟨d, hd, it⟩ := it
          have i2 : i < 2 := (List.getElem?_eq_some_iff.mp hv).1
          refine ⟨_, rfl, .inl ⟨rfl, _, SqL.of e2⟩, _, rfl, ?_⟩
          have tk : [closD n ps, partD n ps].take (i + 1) = [closD n ps, partD n ps].take i ++ [d] := by
            rw [List.take_succ, hd]
            rfl
          rcases it with ⟨rfl, rfl⟩ | ⟨r, rfl, hr2⟩
          · refine ⟨_, rfl, iteT ⟨by show 0 ≤ sizeLine; decide, fun z nz => ?_⟩⟩
            have sz := same_new (o := .lst []) nz
            have zF : z ≠ F := fun e => by rw [e, e2] at nz; cases nz
            have nzH : H z = none := (t301).free (nokp k2 eF e2 nz)
            have dz : DatL (fun a => H a = none ∧ a ≠ F) (upd H2 z (.lst [])) 76 (.ref z) (.list []) := DatL.lst upd_same ⟨nzH, zF⟩ (by show 0 ≤ 1000; decide) .nil
            refine ⟨F, _, _, rfl, rfl, sz _ _ e2, by rw [sizeLine_eq]; omega, xs ++ [.ref z], _, rfl, (k2.trans (Same.kp sz F)).trans (Kp.put _ _ _), upd_same, by rw [List.length_append, lx]; simp; omega, ?_⟩
            rw [tk, ← List.append_assoc]
            exact paired_app (Paired.mapP p2 fun _ _ h => DatL.put (fun _ z => z.2) (sz _ _ e2) (h.same sz)) (.cons (DatL.put (fun _ z => z.2) (sz _ _ e2) dz) .nil)
          · refine ⟨_, rfl, iteF ⟨_, rfl, ?_⟩⟩
            refine ⟨F, _, _, rfl, rfl, e2, by rw [sizeLine_eq]; omega, xs ++ [.ref r], _, rfl, k2.trans (Kp.put _ _ _), upd_same, by rw [List.length_append, lx]; simp; omega, ?_⟩
            rw [tk, ← List.append_assoc]
            exact paired_app (Paired.mapP p2 fun _ _ h => DatL.put (fun _ z => z.2) e2 h) (.cons (DatL.put (fun _ z => z.2) e2 (sF2 hr2)) .nil)
        · rintro σ H2 ⟨xs, x3, rfl, k2, e2, lx, p2⟩
          refine ⟨_, rfl, q H2 F (fun c o' e => k2 c o' (fun z => by rw [z, fF] at e; cases e) ((t301) _ _ e)) ?_⟩
          have p3 : Paired (DatL (fun a => H a = none ∧ a ≠ F) H2 76) xs (toldD n ps os) := p2
          exact DatL.lst (k := 76) e2 fF (by rw [lx]; show 11 ≤ 1000; decide) (Paired.mapP p3 fun _ _ h => h.imp fun _ z => z.1)
end
end DR

set_option Elab.async false
set_option linter.all false
set_option maxRecDepth 100000
set_option maxHeartbeats 4000000
namespace DR
open PySem PySem.Spec PyProof.Rows L2
section
variable {P : Program} {w : World} {K : PySem.W.Frag} {mg : Str → Option Value} {base : Heap}
theorem ok_of {x q : Str} {st : Stmt} {N ps : List Str} {k : Nat} {sp : Sp} {f : Addr} {fd : FuncData} (F : FunD K x q (defArgs st) (defBody st) (defScope st) [] [] f fd) (S : FnScope N ps (defScope st)) (len : ∀ vs H Q E, sp vs H Q E → vs.length = ps.length)
    (body : ∀ (f : Addr) (cdv : Value) (A : Around) (outer : List Env) (s : Shared) (H : Hp) (vs : List V) (Q : VK) (E : XK), Room k (A.deeper (envOfC q (defScope st) s.heap.objs.size f cdv)) → sp vs H Q E →
      ∃ t, PSs (cxOf CX0 P w K mg base N q (defScope st) f cdv A outer s H E).nox (defBody st) t ∧ t { nx := fun _ H' => Q .non H', rt := Q } (start N vs) H) : FnOk P w K mg base CX0 (k + 1) f fd ps sp :=
  F.ok S len fun cdv A outer s H vs Q E hr h => (body f cdv A outer s H vs Q E hr h).imp fun t z => ⟨z.1.nox, z.2⟩
def spLaw (K : PySem.W.Frag) : Sp := fun vs H Q _ => ∃ (a : Addr) (ns : List Int), vs = [.ref a] ∧ ns.length ≤ 63 ∧ SqL K H a (ns.map V.int) ∧ ∀ H', Q (.bl true) H'
end
end DR

set_option Elab.async false
set_option linter.all false
set_option maxRecDepth 100000
set_option maxHeartbeats 4000000
namespace DR
open PySem PySem.Spec PyProof.Rows L2
theorem hu150 {A : Around} {k : Nat} (hr : Room k A) : A.units + 150 < cLine := by have := hr.un; omega
theorem Dat.keepN {N : Addr → Prop} {H H' : Hp} (s : ∀ a o, N a → H a = some o → H' a = some o) : ∀ {k : Nat} {v : V} {d : PyData}, Dat N H k v d → Dat N H' k v d
  | 0, _, _, h => h
  | k + 1, v, d, h => by
    rcases h with h | ⟨a, xs, ds, h1, na, h2, h3, h4⟩
    · exact .inl h
    · exact .inr ⟨a, xs, ds, h1, na, h2.elim (fun h => .inl ⟨s _ _ na h.1, h.2⟩) (fun h => .inr ⟨s _ _ na h.1, h.2⟩), h3, Paired.mapP h4 fun a b h => Dat.keepN s h⟩
theorem paired_det {F G : V → PyData → Prop} (h : ∀ v d e, F v d → G v e → d = e) : ∀ {xs : List V} {ds es : List PyData}, Paired F xs ds → Paired G xs es → ds = es
  | _, _, _, .nil, .nil => rfl
  | _, _, _, .cons r t, .cons r2 t2 => by rw [h _ _ _ r r2, paired_det h t t2]
theorem DatL.det {N N' : Addr → Prop} {H : Hp} : ∀ {k j : Nat} {v : V} {d e : PyData}, DatL N H k v d → DatL N' H j v e → d = e := by
  have zero : ∀ {v : V} {d e : PyData}, Dat0 v d → Dat0 v e → d = e := fun h g => by
    rcases h with ⟨i, rfl, rfl⟩ | ⟨x, rfl, rfl, _⟩ <;> rcases g with ⟨j, h1, rfl⟩ | ⟨y, h1, rfl, _⟩ <;> cases h1 <;> rfl
  have none_ : ∀ {a : Addr} {e : PyData}, Dat0 (.ref a) e → False := fun g => by
    rcases g with ⟨j, h1, _⟩ | ⟨y, h1, _⟩ <;> cases h1
  intro k
  induction k with
  | zero =>
    intro j v d e h g
    cases j with
    | zero => exact zero h g
    | succ j =>
      rcases g with g | ⟨a, xs, ds, rfl, _⟩
      · exact zero h g
      · exact (none_ h).elim
  | succ k ih =>
    intro j v d e h g
    rcases h with h | ⟨a, xs, ds, rfl, h2, h3, h4⟩
    · cases j with
      | zero => exact zero h g
      | succ j =>
        rcases g with g | ⟨a, xs, ds, rfl, _⟩
        · exact zero h g
        · exact (none_ h).elim
    · cases j with
      | zero => exact (none_ g).elim
      | succ j =>
        rcases g with g | ⟨b, ys, es, hb, g2, g3, g4⟩
        · exact (none_ g).elim
        · cases hb
          rcases h2 with ⟨_, e1, rfl⟩ | ⟨e1, rfl⟩ <;> rcases g2 with ⟨_, e2, rfl⟩ | ⟨e2, rfl⟩
          · rw [e1] at e2
            cases e2
            rw [paired_det (F := DatL N H k) (G := DatL N' H j) (fun _ _ _ a b => ih a b) h4 g4]
          · rw [e1] at e2
            cases e2
          · rw [e1] at e2
            cases e2
          · rw [e1] at e2
            cases e2
            rw [paired_det (F := DatL N H k) (G := DatL N' H j) (fun _ _ _ a b => ih a b) h4 g4]
/-- lists that were told may grow by sevens -/
structure Mut (H6 H7 H8 : Hp) (r : Addr) (c : Nat) (H' : Hp) : Prop where
  keep : ∀ b o, H8 b = some o → (H6 b ≠ none ∨ H7 b = none ∨ ∀ xs, o ≠ .lst xs) → H' b = some o
  lst : ∀ b xs, H6 b = none → H8 b = some (.lst xs) → ∃ m, m ≤ c ∧ H' b = some (.lst (xs ++ List.replicate m (.int 7)))
  top : H' r = H8 r
variable {H6 H7 H8 H' : Hp} {r : Addr} {c : Nat}
theorem Mut.init : Mut H6 H7 H8 r 0 H8 := ⟨fun _ _ e _ => e, fun b xs _ e => ⟨0, Nat.le_refl _, by simpa using e⟩, rfl⟩
theorem Mut.up (h : Mut H6 H7 H8 r c H') {d : Nat} (l : c ≤ d) : Mut H6 H7 H8 r d H' := ⟨h.keep, fun b xs h6 e => by
  obtain ⟨m, hm, e2⟩ := h.lst b xs h6 e
  exact ⟨m, by omega, e2⟩, h.top⟩
theorem Mut.put (h : Mut H6 H7 H8 r c H') {p : Addr} {xs : List V} (p6 : H6 p = none) (p7 : H7 p ≠ none) (e8 : H8 p = some (.lst xs)) (pr : p ≠ r) : ∃ ys, H' p = some (.lst ys) ∧ ys.length ≤ xs.length + c ∧ Mut H6 H7 H8 r (c + 1) (upd H' p (.lst (ys ++ [.int 7]))) := by
  obtain ⟨m, hm, e⟩ := h.lst p xs p6 e8
  refine ⟨_, e, by rw [List.length_append, List.length_replicate]; omega, fun b o eb hb => ?_, fun b zs b6 eb => ?_, ?_⟩
  · by_cases c1 : b = p
    · subst c1
      rw [e8] at eb
      obtain rfl := Option.some.inj eb
      rcases hb with hb | hb | hb
      · exact (hb p6).elim
      · exact (p7 hb).elim
      · exact (hb xs rfl).elim
    · rw [upd_ne c1]
      exact h.keep b o eb hb
  · by_cases c1 : b = p
    · subst c1
      rw [e8] at eb
      injection eb with eb
      injection eb with eb
      subst eb
      exact ⟨m + 1, by omega, by rw [upd_same, List.append_assoc, ← List.replicate_succ']⟩
    · obtain ⟨m2, h2, e2⟩ := h.lst b zs b6 eb
      exact ⟨m2, by omega, by rw [upd_ne c1]; exact e2⟩
  · rw [upd_ne (Ne.symm pr)]
    exact h.top
theorem told_shape (n : Nat) (ps : List (Int × Int)) (os : List Int) : ∀ d ∈ toldD n ps os, ∃ es, d = .list es ∧ ∀ e ∈ es, ∀ ts, e = .tuple ts → ts ≠ [] := by
  have pints : ∀ ls : List Int, ∃ es, intsD ls = .list es ∧ ∀ e ∈ es, ∀ ts, e = .tuple ts → ts ≠ [] := fun ls => ⟨_, rfl, fun e he ts z => by
    obtain ⟨i, _, rfl⟩ := List.mem_map.mp he
    cases z⟩
  have prs : ∀ ls : List (Int × Int), ∃ es, pairsD ls = .list es ∧ ∀ e ∈ es, ∀ ts, e = .tuple ts → ts ≠ [] := fun ls => ⟨_, rfl, fun e he ts z => by
    obtain ⟨i, _, rfl⟩ := List.mem_map.mp he
    cases z
    simp⟩
  have one : ∀ a b : PyData, (∀ ts, a = .tuple ts → ts ≠ []) → (∀ ts, b = .tuple ts → ts ≠ []) → ∀ e ∈ [a, b], ∀ ts, e = .tuple ts → ts ≠ [] := fun a b ha hb e he => by
    rcases List.mem_cons.mp he with h | h
    · exact h ▸ ha
    · exact List.mem_singleton.mp h ▸ hb
  have rnd : ∃ es, roundD n ps = .list es ∧ ∀ e ∈ es, ∀ ts, e = .tuple ts → ts ≠ [] := by
    unfold roundD
    split
    · exact ⟨_, rfl, one _ _ (fun ts z => by cases z) (fun ts z => by cases z; simp)⟩
    · split
      · exact ⟨_, rfl, one _ _ (fun ts z => by cases z) (fun ts z => by cases z)⟩
      · split
        · exact ⟨_, rfl, one _ _ (fun ts z => by cases z) (fun ts z => by cases z; simp)⟩
        · exact ⟨_, rfl, one _ _ (fun ts z => by cases z) (fun ts z => by cases z; simp)⟩
  intro d hd
  unfold toldD at hd
  simp only [List.cons_append, List.nil_append, List.mem_cons, List.not_mem_nil, or_false] at hd
  rcases hd with rfl | rfl | rfl | rfl | rfl | rfl | rfl | rfl | rfl | rfl | rfl
  · exact prs _
  · exact prs _
  · exact pints _
  · refine ⟨_, rfl, fun e he ts z => ?_⟩
    simp only [List.mem_cons, List.not_mem_nil, or_false] at he
    rcases he with rfl | rfl | rfl <;> cases z
  · exact pints _
  · exact prs _
  · refine ⟨_, rfl, fun e he ts z => ?_⟩
    obtain ⟨i, _, rfl⟩ := List.mem_map.mp he
    cases z
  · exact ⟨_, rfl, one _ _ (fun ts z => by cases z) (fun ts z => by cases z)⟩
  · exact rnd
  · unfold closD
    split
    · exact ⟨[], rfl, fun e he => by cases he⟩
    · exact pints _
  · unfold partD
    split
    · exact pints _
    · exact ⟨[], rfl, fun e he => by cases he⟩
theorem PairsAt.kpD {H H' : Hp} {d tl : Addr} {ps : List (Int × Int)} (pa : PairsAt H tl ps) (hd : DiceAt H d) (k : Kp d H H') : PairsAt H' tl ps := by
  obtain ⟨as, e, ta⟩ := pa
  exact ⟨as, k _ _ (hd.ne e) e, ta.keep fun b xs e => k _ _ (dice_tup hd e) e⟩
theorem LawT.kpD {d t : Addr} {H H' : Hp} {n : Nat} {ps : List (Int × Int)} (h : LawT H t n ps) (hd : DiceAt H d) (k : Kp d H H') : LawT H' t n ps := by
  obtain ⟨tl, e, p⟩ := h
  exact ⟨tl, k _ _ (dice_tup hd e) e, p.kpD hd k⟩
theorem list_in {ds es : List PyData} (h : PyData.list es ∈ ds) (e : ds = es) : False := by
  have := List.sizeOf_lt_of_mem h
  rw [e] at this
  simp at this
  omega
theorem list_in2 {ds es fs : List PyData} (h : PyData.list fs ∈ es) (g : PyData.list es ∈ ds) (e : ds = fs) : False := by
  have h1 := List.sizeOf_lt_of_mem h
  have h2 := List.sizeOf_lt_of_mem g
  rw [e] at h2
  simp at h1 h2
  omega
theorem list_in3 {es fs gs : List PyData} (h : PyData.list gs ∈ fs) (g : PyData.tuple fs ∈ es) (e : es = gs) : False := by
  have h1 := List.sizeOf_lt_of_mem h
  have h2 := List.sizeOf_lt_of_mem g
  rw [e] at h2
  simp at h1 h2
  omega
theorem list_in4 {ds es fs gs : List PyData} (h : PyData.list gs ∈ fs) (g : PyData.tuple fs ∈ es) (k : PyData.list es ∈ ds) (e : ds = gs) : False := by
  have h1 := List.sizeOf_lt_of_mem h
  have h2 := List.sizeOf_lt_of_mem g
  have h3 := List.sizeOf_lt_of_mem k
  rw [e] at h3
  simp at h1 h2 h3
  omega
theorem list_eq {a b : List PyData} (h : PyData.list a = .list b) : a = b := by
  injection h
theorem paired_last2 {F : V → PyData → Prop} : ∀ {xs : List V} {ds : List PyData}, Paired F xs ds → ds ≠ [] → ∃ l v d, xs = l ++ [v] ∧ d ∈ ds ∧ F v d
  | _, _, .nil, h => (h rfl).elim
  | _, _, .cons r .nil, _ => ⟨[], _, _, rfl, by simp, r⟩
  | _, _, .cons r (.cons r2 t), _ => by
    obtain ⟨l, v, d, e, hd, hF⟩ := paired_last2 (Paired.cons r2 t) (by simp)
    exact ⟨_ :: l, v, d, by rw [e]; rfl, List.mem_cons_of_mem _ hd, hF⟩
section
variable {P : Program} {w : World} {K : PySem.W.Frag} {mg : Str → Option Value} {base : Heap} {C : Addr}
abbrev nLaw : List Str := ["_law_script", "_law_d", "_law_t", "_law_other", "_law_order", "_law_yard_here", "_law_told_here", "_law_first", "_law_one", "_law_part"]
theorem scLaw : FnScope nLaw ["_law_script"] (defScope s_law) := ⟨rfl, rfl, rfl, by decide +kernel, rfl, by decide +kernel, by decide +kernel⟩
theorem ok_lawK19 {f0 : Addr} {fd0 : FuncData} (F : FunD K "law" "law" (defArgs s_law) (defBody s_law) (defScope s_law) [] [] f0 fd0) (B : Blt mg) (DI : Has P w K mg base 1 "_law_dice" ["_law_script", "_law_k"] (spDice K)) (MX : Has P w K mg base 2 "_law_mixed" ["_law_d", "_law_row"] (spMixed K))
    (YA : Has P w K mg base 3 "_law_yard" ["_law_d", "_law_least", "_law_most"] spYard) (MA : Has P w K mg base 4 "_law_made" ["_law_t"] (spMade C)) (TL : Has P w K mg base 80 "_law_told" ["_law_yard_here", "_law_order"] (spTold C)) (KE : Has P w K mg base 78 "_law_kept" ["_law_found"] (spKept 77)) :
    FnOk P w K mg base CX0 81 f0 fd0 ["_law_script"] (spLaw K) := by
  refine ok_of F scLaw (fun vs H Q E h => ?_) (fun f cdv A outer s H vs Q E hr h => ?_)
  · obtain ⟨a, ns, rfl, _⟩ := h
    rfl
  · obtain ⟨a, ns, rfl, hn, hS, q⟩ := h
    refine ⟨_, pss_cons (ps_set (i := 1) scLaw.nd rfl (.inl rfl) (pe_has DI hr (by decide) (by rfl) (pa_cons (pv 0) (pa_cons pe_int pa_nil))))
      (pss_cons (ps_set (i := 2) scLaw.nd rfl (.inl rfl) (pe_has YA hr (by decide) (by rfl) (pa_cons (pv 1) (pa_cons pe_int (pa_cons pe_int pa_nil)))))
      (pss_cons (ps_set (i := 3) scLaw.nd rfl (.inl rfl) (pe_has YA hr (by decide) (by rfl) (pa_cons (pv 1) (pa_cons pe_int (pa_cons pe_int pa_nil)))))
      (pss_cons (ps_set (i := 4) scLaw.nd rfl (.inl rfl) (pe_has MX hr (by decide) (by rfl) (pa_cons (pv 1) (pa_cons (pe_listRg rfl (by rfl) B.list (prg_1 (by rfl) B.range (pe_ix (r := rIxT K) ix_tup (pv 2) pe_int (fun _ _ => rfl)))) pa_nil))))
      (pss_cons (ps_set (i := 5) scLaw.nd rfl (.inl rfl) (pe_has MA hr (by decide) (by rfl) (pa_cons (pv 2) pa_nil)))
      (pss_cons (ps_set (i := 6) scLaw.nd rfl (.inl rfl) (pe_has TL hr (by decide) (by rfl) (pa_cons (pv 5) (pa_cons (pv 4) pa_nil))))
      (pss_cons (ps_set (i := 7) scLaw.nd rfl (.inl rfl) (pe_has KE hr (by decide) (by rfl) (pa_cons (pv 6) pa_nil)))
      (pss_cons (ps_for PassesOwn.never rfl (pi_list (pv 6)) (pg_name (i := 8) scLaw.nd rfl (.inl rfl))
        (pss_cons (ps_for PassesOwn.never rfl (pi_list (pv 8)) (pg_name (i := 9) scLaw.nd rfl (.inl rfl))
          (pss_cons (ps_if (pt_val (pe_callB call_isi (by rfl) B.isinstance (by decide +kernel) (pa_cons (pv 9) (pa_cons (pe_bltn (v := .ty "list") (by rfl) B.list (by decide +kernel) rfl) pa_nil)))) (pss_one (ps_expr (pe_bm PySem.F.plainAttrs_list PySem.F.slot_list_append PySem.F.type_list_append mt_append (pv 9) (pa_cons pe_int pa_nil)))) pss_nil)
          (pss_one (ps_if (PW.pt (pw_and (pt_val (pe_callB call_isi (by rfl) B.isinstance (by decide +kernel) (pa_cons (pv 9) (pa_cons (pe_bltn (v := .ty "tuple") (by rfl) B.tuple (by decide +kernel) rfl) pa_nil)))) (pw_and1 (pt_val (pe_callB call_isi (by rfl) B.isinstance (by decide +kernel) (pa_cons (pe_ix (r := rIxT K) ix_tup (pv 9) (pe_un un_neg pe_int) (fun _ _ => rfl)) (pa_cons (pe_bltn (v := .ty "list") (by rfl) B.list (by decide +kernel) rfl) pa_nil))))))) (pss_one (ps_expr (pe_bm PySem.F.plainAttrs_list PySem.F.slot_list_append PySem.F.type_list_append mt_append (pe_ix (r := rIxT K) ix_tup (pv 9) (pe_un un_neg pe_int) (fun _ _ => rfl)) (pa_cons pe_int pa_nil)))) pss_nil))))
        (pss_one (ps_expr (pe_bm PySem.F.plainAttrs_list PySem.F.slot_list_append PySem.F.type_list_append mt_append (pv 8) (pa_cons pe_int pa_nil))))))
      (pss_cons (ps_expr (pe_has TL hr (by decide) (by rfl) (pa_cons (pe_has MA hr (by decide) (by rfl) (pa_cons (pv 3) pa_nil)) (pa_cons (pe_listRg rfl (by rfl) B.list (prg_1 (by rfl) B.range (pe_ix (r := rIxT K) ix_tup (pv 3) pe_int (fun _ _ => rfl)))) pa_nil))))
      (pss_one (ps_ret (pe_and (pe_cmpR (r := rEqDd K) (op_eqDd (hu150 hr)) (pe_has TL hr (by decide) (by rfl) (pa_cons (pv 5) (pa_cons (pv 4) pa_nil))) (pv 7) (by with_unfolding_all rfl))
        (pe_one (pe_cmpR (r := rEqDd K) (op_eqDd (hu150 hr)) (pe_has TL hr (by decide) (by rfl) (pa_cons (pe_has MA hr (by decide) (by rfl) (pa_cons (pv 2) pa_nil)) (pa_cons (pv 4) pa_nil))) (pv 7) (by with_unfolding_all rfl)))))))))))))), ?_⟩
    refine ⟨_, rfl, a, 0, ns, rfl, hS, hn, by omega, by omega, fun H1 d s1 nd hd => ?_⟩
    refine ⟨_, rfl, d, 2, 8, rfl, hd, by omega, by omega, by omega, fun H2 t tl n ps k2 hd2 nt ntl et pt ti l0 l1 => ?_⟩
    have lt2 : LawT H2 t n ps := ⟨tl, et, pt⟩
    refine ⟨_, rfl, d, 2, 8, rfl, hd2, by omega, by omega, by omega, fun H3 o2 ol m qs k3 hd3 no nol eo po to_ m0 m1 => ?_⟩
    have lt3 := lt2.kpD hd2 k3
    have lo3 : LawT H3 o2 m qs := ⟨ol, eo, po⟩
    have et3 := k3 _ _ (dice_tup hd2 et) et
    clear k2 nt ntl pt lt2 no nol po hd hd2 k3 et s1 nd
    refine ⟨_, rfl, _, rfl, t, _, _, _, rfl, rfl, SqT.of et3, atI_nat (j := 0) rfl, (n : Int), rfl, RgOk.of_le (by omega) (by omega) (by omega) (by omega), fun p np => ?_⟩
    rw [rgV_upTo]
    have sp := same_new (o := .lst ((upTo n).map V.int)) np
    have hdp : DiceAt (upd H3 p (.lst ((upTo n).map V.int))) d := by
      obtain ⟨o, e, x⟩ := hd3
      exact ⟨o, sp _ _ e, x⟩
    refine ⟨d, p, _, rfl, hdp, SqL.of upd_same, by rw [List.length_map, upTo_len]; omega, fun H5 N ys pm k5 hd5 nN eN => ?_⟩
    obtain ⟨os, rfl, io⟩ := perm_ints pm
    have io : IsOrd n os := io
    have lt5 := (lt3.same sp).kpD hdp k5
    have lo5 := (lo3.same sp).kpD hdp k5
    have eo5 := k5 _ _ (dice_tup hdp (sp _ _ eo)) (sp _ _ eo)
    have eN : OrdAt H5 N os := eN
    clear k5 nN np sp hdp hd3 lt3 lo3 et3 eo pm hd5
    refine ⟨_, rfl, t, n, ps, rfl, lt5, ti, by omega, by omega, fun H6 y s6 hy => ?_⟩
    refine ⟨_, rfl, _, rfl, y, N, n, ps, os, rfl, hy, ti, eN.same s6, io, l0, by omega, fun H7 r s7 dr => ?_⟩
    refine ⟨_, rfl, _, _, rfl, dr.dat, fun H8 f s8 df => ?_⟩
    -- the loop
    obtain ⟨xs7, r6, er7, few7, pr⟩ : ∃ xs, H6 r = none ∧ H7 r = some (.lst xs) ∧ xs.length ≤ 1000 ∧ Paired (DatL (fun a => H6 a = none) H7 76) xs (toldD n ps os) := by
      rcases id dr with (⟨i, z, _⟩ | ⟨x, z, _⟩) | ⟨b, xs, ds, hb, ⟨h1, h2, h3⟩ | ⟨_, h3⟩, h4, h5⟩
      · cases z
      · cases z
      · cases hb
        cases h3
        exact ⟨xs, h1, h2, h4, h5⟩
      · cases h3
    have er8 := s8 _ _ er7
    have lx : xs7.length = 11 := by
      rw [paired_len pr]
      rfl
    have sl : 16777216 ≤ sizeLine := by decide
    refine ⟨_, rfl, r, rfl, ⟨_, SqL.of er8⟩, for_list (K := K) (a := r) (xs := xs7) (fun i σ H9 => ∃ x8 x9 : Option V, σ = [some (.ref a), some (.ref d), some (.ref t), some (.ref o2), some (.ref N), some (.ref y), some (.ref r), some f, x8, x9] ∧ Mut H6 H7 H8 r (i * 1001) H9)
      ⟨none, none, rfl, by rw [Nat.zero_mul]; exact Mut.init⟩ (fun i σ H9 _ ⟨_, _, _, M⟩ => SqL.of (M.top.trans er8)) ?_ ?_⟩
    · rintro i v σ H9 hv ⟨x8, x9, rfl, M⟩
      have i11 : i < 11 := by
        have := (List.getElem?_eq_some_iff.mp hv).1
        omega
      obtain ⟨di, hdi, dv⟩ := paired_at pr hv
      have mdi := List.mem_of_getElem? hdi
      obtain ⟨es, rfl, nee⟩ := told_shape n ps os di mdi
      obtain ⟨b, xsa, rfl, b6, eb7, fewa, pa⟩ : ∃ b xs, v = .ref b ∧ H6 b = none ∧ H7 b = some (.lst xs) ∧ xs.length ≤ 1000 ∧ Paired (DatL (fun a => H6 a = none) H7 75) xs es := by
        rcases id dv with (⟨i, _, z⟩ | ⟨x, _, z, _⟩) | ⟨b, xs, ds, hb, ⟨h1, h2, h3⟩ | ⟨_, h3⟩, h4, h5⟩
        · cases z
        · cases z
        · cases h3
          exact ⟨b, xs, hb, h1, h2, h4, h5⟩
        · cases h3
      have br : b ≠ r := fun e => by
        subst e
        exact list_in mdi (list_eq (DatL.det dr dv))
      have eb8 := s8 _ _ eb7
      obtain ⟨m7, hm7, eb9⟩ := M.lst b xsa b6 eb8
      refine ⟨_, rfl, b, rfl, ⟨_, SqL.of eb9⟩, for_list (K := K) (a := b) (xs := xsa ++ List.replicate m7 (.int 7)) (fun j σ H10 => ∃ x9 : Option V, σ = [some (.ref a), some (.ref d), some (.ref t), some (.ref o2), some (.ref N), some (.ref y), some (.ref r), some f, some (.ref b), x9] ∧ Mut H6 H7 H8 r (i * 1001 + min j xsa.length) H10 ∧ H10 b = some (.lst (xsa ++ List.replicate m7 (.int 7))))
        ⟨x9, rfl, by rw [Nat.zero_min, Nat.add_zero]; exact M, eb9⟩ (fun j σ H10 _ ⟨_, _, _, e⟩ => SqL.of e) ?_ ?_⟩
      · rintro j u σ H10 hu ⟨x9, rfl, M10, eb10⟩
        -- a number
        have nx : Mut H6 H7 H8 r (i * 1001 + min (j + 1) xsa.length) H10 := M10.up (by omega)
        by_cases c : j < xsa.length
        · rw [List.getElem?_append_left c] at hu
          obtain ⟨ej, hej, du⟩ := paired_at pa hu
          have mej := List.mem_of_getElem? hej
          have cj : i * 1001 + min (j + 1) xsa.length = i * 1001 + min j xsa.length + 1 := by omega
          have cb : i * 1001 + min j xsa.length ≤ 12012 := by omega
          rcases id du with (⟨z, rfl, _⟩ | ⟨z, rfl, _⟩) | ⟨p, zs, fs, rfl, ⟨p6, ep7, rfl⟩ | ⟨ep7, rfl⟩, few, pz⟩
          · refine ⟨_, rfl, _, _, _, _, false, rfl, .ty _, .base (.int _), kit_ty (by decide +kernel), _, rfl, iteF ?_⟩
            exact ⟨_, rfl, _, _, _, _, false, rfl, .ty _, .base (.int _), kit_ty (by decide +kernel), _, rfl, iteF (iteF ⟨_, rfl, nx, eb10⟩)⟩
          · refine ⟨_, rfl, _, _, _, _, false, rfl, .ty _, .base (.str _), kit_ty (by decide +kernel), _, rfl, iteF ?_⟩
            exact ⟨_, rfl, _, _, _, _, false, rfl, .ty _, .base (.str _), kit_ty (by decide +kernel), _, rfl, iteF (iteF ⟨_, rfl, nx, eb10⟩)⟩
          · have pr_ : p ≠ r := fun e => by
              subst e
              exact list_in2 mej mdi (list_eq (DatL.det dr du))
            have pb : p ≠ b := fun e => by
              subst e
              exact list_in mej (list_eq (DatL.det dv du))
            obtain ⟨ys, ep10, ly, M11⟩ := M10.put p6 (by rw [ep7]; exact fun z => by cases z) (s8 _ _ ep7) pr_
            refine ⟨_, rfl, _, _, _, _, true, rfl, .ty _, .base (.lst ep10), kit_ty (by decide +kernel), _, rfl, iteT ?_⟩
            refine ⟨_, rfl, .inl ⟨rfl, _, SqL.of ep10⟩, p, _, _, rfl, rfl, ep10, by omega, ?_⟩
            refine ⟨_, rfl, _, _, _, _, false, rfl, .ty _, .base (.lst upd_same), kit_ty (by decide +kernel), _, rfl, iteF (iteF ?_)⟩
            exact ⟨_, rfl, by rw [cj]; exact M11, (upd_ne (Ne.symm pb)).trans eb10⟩
          · have ep10 := M10.keep p _ (s8 _ _ ep7) (.inr (.inr fun xs z => by cases z))
            have fne : fs ≠ [] := nee _ mej fs rfl
            obtain ⟨zl, w2, f2, ez, mf2, dw⟩ := paired_last2 pz fne
            subst ez
            refine ⟨_, rfl, _, _, _, _, false, rfl, .ty _, .base (.tup ep10), kit_ty (by decide +kernel), _, rfl, iteF ?_⟩
            refine ⟨_, rfl, _, _, _, _, true, rfl, .ty _, .base (.tup ep10), kit_ty (by decide +kernel), _, rfl, iteT ?_⟩
            refine ⟨_, rfl, _, rfl, p, _, _, _, rfl, rfl, SqT.of ep10, atI_last _ _, ?_⟩
            rcases id dw with (⟨z, rfl, _⟩ | ⟨z, rfl, _⟩) | ⟨q2, qz, gs, rfl, ⟨q6, eq7, rfl⟩ | ⟨eq7, rfl⟩, few2, pz2⟩
            · exact ⟨_, _, _, _, false, rfl, .ty _, .base (.int _), kit_ty (by decide +kernel), _, rfl, iteF ⟨_, rfl, nx, eb10⟩⟩
            · exact ⟨_, _, _, _, false, rfl, .ty _, .base (.str _), kit_ty (by decide +kernel), _, rfl, iteF ⟨_, rfl, nx, eb10⟩⟩
            · have qr : q2 ≠ r := fun e => by
                subst e
                exact list_in4 mf2 mej mdi (list_eq (DatL.det dr dw))
              have qb : q2 ≠ b := fun e => by
                subst e
                exact list_in3 mf2 mej (list_eq (DatL.det dv dw))
              obtain ⟨ys, eq10, ly, M11⟩ := M10.put q6 (by rw [eq7]; exact fun z => by cases z) (s8 _ _ eq7) qr
              refine ⟨_, _, _, _, true, rfl, .ty _, .base (.lst eq10), kit_ty (by decide +kernel), _, rfl, iteT ?_⟩
              refine ⟨_, rfl, _, rfl, p, _, _, _, rfl, rfl, SqT.of ep10, atI_last _ _, .inl ⟨rfl, _, SqL.of eq10⟩, q2, _, _, rfl, rfl, eq10, by omega, ?_⟩
              exact ⟨_, rfl, by rw [cj]; exact M11, (upd_ne (Ne.symm qb)).trans eb10⟩
            · have eq10 := M10.keep q2 _ (s8 _ _ eq7) (.inr (.inr fun xs z => by cases z))
              exact ⟨_, _, _, _, false, rfl, .ty _, .base (.tup eq10), kit_ty (by decide +kernel), _, rfl, iteF ⟨_, rfl, nx, eb10⟩⟩
        · rw [List.getElem?_append_right (by omega)] at hu
          have hu7 : u = .int 7 := (List.eq_of_mem_replicate (List.mem_of_getElem? hu))
          subst hu7
          refine ⟨_, rfl, _, _, _, _, false, rfl, .ty _, .base (.int _), kit_ty (by decide +kernel), _, rfl, iteF ?_⟩
          exact ⟨_, rfl, _, _, _, _, false, rfl, .ty _, .base (.int _), kit_ty (by decide +kernel), _, rfl, iteF (iteF ⟨_, rfl, nx, eb10⟩)⟩
      · rintro σ H10 ⟨x9, rfl, M10, eb10⟩
        obtain ⟨ys, ey10, ly, M11⟩ := M10.put b6 (by rw [eb7]; exact fun z => by cases z) eb8 br
        refine ⟨_, rfl, .inl ⟨rfl, _, SqL.of ey10⟩, b, _, _, rfl, rfl, ey10, by omega, ?_⟩
        exact ⟨_, _, rfl, M11.up (by rw [Nat.succ_mul]; omega)⟩
    · rintro σ H9 ⟨x8, x9, rfl, M⟩
      have s69 : Same H6 H9 := fun b o e => M.keep b o (s8 _ _ (s7 _ _ e)) (.inl (by rw [e]; exact fun z => by cases z))
      have df9 := df.keepN (H' := H9) fun b o nb e => M.keep b o e (.inr (.inl nb))
      have lo9 := (lo5.same s6).same s69
      have eo9 := s69 _ _ (s6 _ _ eo5)
      refine ⟨_, rfl, o2, m, qs, rfl, lo9, to_, by omega, by omega, fun H10 y2 s10 hy2 => ?_⟩
      refine ⟨_, rfl, o2, _, _, _, rfl, rfl, SqT.of (s10 _ _ eo9), atI_nat (j := 0) rfl, (m : Int), rfl, RgOk.of_le (by omega) (by omega) (by omega) (by omega), fun p2 np2 => ?_⟩
      rw [rgV_upTo]
      have sp2 := same_new (o := .lst ((upTo m).map V.int)) np2
      refine ⟨y2, p2, m, qs, upTo m, rfl, hy2.same sp2, to_, upd_same, List.Perm.refl _, m0, by omega, fun H11 r2 s11 _ => ?_⟩
      have s911 := (s10.trans sp2).trans s11
      have s611 := s69.trans s911
      refine ⟨_, rfl, _, rfl, y, N, n, ps, os, rfl, hy.same s611, ti, (eN.same s6).same s611, io, l0, by omega, fun H12 r3 s12 d3 => ?_⟩
      have df12 := (df9.same s911).same s12
      refine ⟨_, rfl, _, _, d3.dat.dp, df12.dp, df12.lay, df12.lay, Nat.le_trans df12.deep (by decide), _, rfl, ?_⟩
      rw [SeqAt.eqv_refl _ df12.lay]
      refine iteT ?_
      have s612 := s611.trans s12
      refine ⟨_, rfl, t, n, ps, rfl, (lt5.same s6).same s612, ti, by omega, by omega, fun H13 y3 s13 hy3 => ?_⟩
      refine ⟨_, rfl, y3, N, n, ps, os, rfl, hy3, ti, ((eN.same s6).same s612).same s13, io, l0, by omega, fun H14 r4 s14 d4 => ?_⟩
      have df14 := (df12.same s13).same s14
      refine ⟨_, rfl, _, _, d4.dat.dp, df14.dp, df14.lay, df14.lay, Nat.le_trans df14.deep (by decide), ?_⟩
      rw [SeqAt.eqv_refl _ df14.lay]
      exact q _
end
end DR

set_option Elab.async false
set_option linter.all false
set_option maxRecDepth 100000
set_option maxHeartbeats 0
namespace DR
open PySem PySem.Spec PyProof.Rows L2
/-! ### the head -/
def d_nothing_said : He.DefD := ⟨("nothing_said", none), "nothing_said", "nothing_said", defArgs s_nothing_said, defBody s_nothing_said, defScope s_nothing_said, [], []⟩
def d_said_out : He.DefD := ⟨("said_out", none), "said_out", "said_out", defArgs s_said_out, defBody s_said_out, defScope s_said_out, [], []⟩
def d_said_in : He.DefD := ⟨("said_in", none), "said_in", "said_in", defArgs s_said_in, defBody s_said_in, defScope s_said_in, [], []⟩
def d_way_from : He.DefD := ⟨("way_from", none), "way_from", "way_from", defArgs s_way_from, defBody s_way_from, defScope s_way_from, [], []⟩
def d_leaf_of : He.DefD := ⟨("leaf_of", none), "leaf_of", "leaf_of", defArgs s_leaf_of, defBody s_leaf_of, defScope s_leaf_of, [], []⟩
def d_barred_tie : He.DefD := ⟨("barred_tie", none), "barred_tie", "barred_tie", defArgs s_barred_tie, defBody s_barred_tie, defScope s_barred_tie, [], []⟩
def d_tightest_tie : He.DefD := ⟨("tightest_tie", none), "tightest_tie", "tightest_tie", defArgs s_tightest_tie, defBody s_tightest_tie, defScope s_tightest_tie, [], []⟩
def d_node_of : He.DefD := ⟨("node_of", none), "node_of", "node_of", defArgs s_node_of, defBody s_node_of, defScope s_node_of, [], []⟩
def d_tree_of : He.DefD := ⟨("tree_of", none), "tree_of", "tree_of", defArgs s_tree_of, defBody s_tree_of, defScope s_tree_of, [], []⟩
def d_check_searched : He.DefD := ⟨("check_searched", none), "check_searched", "check_searched", defArgs s_check_searched, defBody s_check_searched, defScope s_check_searched, [], []⟩
def d_group_of : He.DefD := ⟨("group_of", none), "group_of", "group_of", defArgs s_group_of, defBody s_group_of, defScope s_group_of, [], []⟩
def d_groups_without : He.DefD := ⟨("groups_without", none), "groups_without", "groups_without", defArgs s_groups_without, defBody s_groups_without, defScope s_groups_without, [], []⟩
def d_parting : He.DefD := ⟨("parting", none), "parting", "parting", defArgs s_parting, defBody s_parting, defScope s_parting, [], []⟩
def d_without : He.DefD := ⟨("without", none), "without", "without", defArgs s_without, defBody s_without, defScope s_without, [], []⟩
def d_ways_home : He.DefD := ⟨("ways_home", none), "ways_home", "ways_home", defArgs s_ways_home, defBody s_ways_home, defScope s_ways_home, [], []⟩
def d_least_onward : He.DefD := ⟨("least_onward", none), "least_onward", "least_onward", defArgs s_least_onward, defBody s_least_onward, defScope s_least_onward, [], []⟩
def d_least_round : He.DefD := ⟨("least_round", none), "least_round", "least_round", defArgs s_least_round, defBody s_least_round, defScope s_least_round, [], []⟩
def d_round_of : He.DefD := ⟨("round_of", none), "round_of", "round_of", defArgs s_round_of, defBody s_round_of, defScope s_round_of, [], []⟩
def d_counted : He.DefD := ⟨("counted", none), "counted", "counted", defArgs s_counted, defBody s_counted, defScope s_counted, [], []⟩
def d_check_order : He.DefD := ⟨("check_order", none), "check_order", "check_order", defArgs s_check_order, defBody s_check_order, defScope s_check_order, [], []⟩
def d_gaps : He.DefD := ⟨("gaps", none), "gaps", "gaps", defArgs s_gaps, defBody s_gaps, defScope s_gaps, [], []⟩
def d_is_round : He.DefD := ⟨("is_round", none), "is_round", "is_round", defArgs s_is_round, defBody s_is_round, defScope s_is_round, [], []⟩
def d_begun_behind : He.DefD := ⟨("begun_behind", none), "begun_behind", "begun_behind", defArgs s_begun_behind, defBody s_begun_behind, defScope s_begun_behind, [], []⟩
def d_turned : He.DefD := ⟨("turned", none), "turned", "turned", defArgs s_turned, defBody s_turned, defScope s_turned, [], []⟩
def d_least_back : He.DefD := ⟨("least_back", none), "least_back", "least_back", defArgs s_least_back, defBody s_least_back, defScope s_least_back, [], []⟩
def d_first_turning : He.DefD := ⟨("first_turning", none), "first_turning", "first_turning", defArgs s_first_turning, defBody s_first_turning, defScope s_first_turning, [], []⟩
def d_rounded : He.DefD := ⟨("rounded", none), "rounded", "rounded", defArgs s_rounded, defBody s_rounded, defScope s_rounded, [], []⟩
def d_check_yard : He.DefD := ⟨("check_yard", none), "check_yard", "check_yard", defArgs s_check_yard, defBody s_check_yard, defScope s_check_yard, [], []⟩
def d_untied : He.DefD := ⟨("untied", none), "untied", "untied", defArgs s_untied, defBody s_untied, defScope s_untied, [], []⟩
def d_thin : He.DefD := ⟨("thin", none), "thin", "thin", defArgs s_thin, defBody s_thin, defScope s_thin, [], []⟩
def d_first_with_enough : He.DefD := ⟨("first_with_enough", none), "first_with_enough", "first_with_enough", defArgs s_first_with_enough, defBody s_first_with_enough, defScope s_first_with_enough, [], []⟩
def d_closed : He.DefD := ⟨("closed", none), "closed", "closed", defArgs s_closed, defBody s_closed, defScope s_closed, [], []⟩
def d_tied_too : He.DefD := ⟨("tied_too", none), "tied_too", "tied_too", defArgs s_tied_too, defBody s_tied_too, defScope s_tied_too, [], []⟩
def d_without_gap : He.DefD := ⟨("without_gap", none), "without_gap", "without_gap", defArgs s_without_gap, defBody s_without_gap, defScope s_without_gap, [], []⟩
def d_opened : He.DefD := ⟨("opened", none), "opened", "opened", defArgs s_opened, defBody s_opened, defScope s_opened, [], []⟩
def d_by_closing : He.DefD := ⟨("by_closing", none), "by_closing", "by_closing", defArgs s_by_closing, defBody s_by_closing, defScope s_by_closing, [], []⟩
def d_written : He.DefD := ⟨("written", none), "written", "written", defArgs s_written, defBody s_written, defScope s_written, [], []⟩
def d__law_dice : He.DefD := ⟨("_law_dice", none), "_law_dice", "_law_dice", defArgs s__law_dice, defBody s__law_dice, defScope s__law_dice, [], []⟩
def d__law_off : He.DefD := ⟨("_law_off", none), "_law_off", "_law_off", defArgs s__law_off, defBody s__law_off, defScope s__law_off, [], []⟩
def d__law_pairs : He.DefD := ⟨("_law_pairs", none), "_law_pairs", "_law_pairs", defArgs s__law_pairs, defBody s__law_pairs, defScope s__law_pairs, [], []⟩
def d__law_mixed : He.DefD := ⟨("_law_mixed", none), "_law_mixed", "_law_mixed", defArgs s__law_mixed, defBody s__law_mixed, defScope s__law_mixed, [], []⟩
def d__law_yard : He.DefD := ⟨("_law_yard", none), "_law_yard", "_law_yard", defArgs s__law_yard, defBody s__law_yard, defScope s__law_yard, [], []⟩
def d__law_made : He.DefD := ⟨("_law_made", none), "_law_made", "_law_made", defArgs s__law_made, defBody s__law_made, defScope s__law_made, [], []⟩
def d__law_kept : He.DefD := ⟨("_law_kept", none), "_law_kept", "_law_kept", defArgs s__law_kept, defBody s__law_kept, defScope s__law_kept, [], []⟩
def d__law_told : He.DefD := ⟨("_law_told", none), "_law_told", "_law_told", defArgs s__law_told, defBody s__law_told, defScope s__law_told, [], []⟩
def d_law : He.DefD := ⟨("law", none), "law", "law", defArgs s_law, defBody s_law, defScope s_law, [], []⟩
def dm_init : He.DefD := ⟨("Yard", some "__init__"), "__init__", "Yard.__init__", defArgs s_Yard_init, defBody s_Yard_init, defScope s_Yard_init, [], []⟩
def dm_many : He.DefD := ⟨("Yard", some "many"), "many", "Yard.many", defArgs s_Yard_many, defBody s_Yard_many, defScope s_Yard_many, [], []⟩
def dm_ties : He.DefD := ⟨("Yard", some "ties"), "ties", "Yard.ties", defArgs s_Yard_ties, defBody s_Yard_ties, defScope s_Yard_ties, [], []⟩
def dm_is_tied : He.DefD := ⟨("Yard", some "is_tied"), "is_tied", "Yard.is_tied", defArgs s_Yard_is_tied, defBody s_Yard_is_tied, defScope s_Yard_is_tied, [], []⟩
def dm_degree : He.DefD := ⟨("Yard", some "degree"), "degree", "Yard.degree", defArgs s_Yard_degree, defBody s_Yard_degree, defScope s_Yard_degree, [], []⟩
def dn_init : He.DefD := ⟨("Said", some "__init__"), "__init__", "Said.__init__", defArgs s_Said_init, defBody s_Said_init, defScope s_Said_init, [], []⟩
def dn_many_not_out : He.DefD := ⟨("Said", some "many_not_out"), "many_not_out", "Said.many_not_out", defArgs s_Said_many_not_out, defBody s_Said_many_not_out, defScope s_Said_many_not_out, [], []⟩
def hfn : List He.DefD := [d_nothing_said, d_said_out, d_said_in, d_way_from, d_leaf_of, d_barred_tie, d_tightest_tie, d_node_of, d_tree_of, d_check_searched, d_group_of, d_groups_without, d_parting, d_without, d_ways_home, d_least_onward, d_least_round, d_round_of, d_counted, d_check_order, d_gaps, d_is_round, d_begun_behind, d_turned, d_least_back, d_first_turning, d_rounded, d_check_yard, d_untied, d_thin, d_first_with_enough, d_closed, d_tied_too, d_without_gap, d_opened, d_by_closing, d_written, d__law_dice, d__law_off, d__law_pairs, d__law_mixed, d__law_yard, d__law_made, d__law_kept, d__law_told, d_law, dm_init, dm_many, dm_ties, dm_is_tied, dm_degree, dn_init, dn_many_not_out]
def hfa : List He.Fa := [.glo "nothing_said", .glo "said_out", .glo "said_in", .glo "way_from", .glo "leaf_of", .glo "barred_tie", .glo "tightest_tie", .glo "node_of", .glo "tree_of", .glo "check_searched", .glo "group_of", .glo "groups_without", .glo "parting", .glo "without", .glo "ways_home", .glo "least_onward", .glo "least_round", .glo "round_of", .glo "counted", .glo "check_order", .glo "gaps", .glo "is_round", .glo "begun_behind", .glo "turned", .glo "least_back", .glo "first_turning", .glo "rounded", .glo "check_yard", .glo "untied", .glo "thin", .glo "first_with_enough", .glo "closed", .glo "tied_too", .glo "without_gap", .glo "opened", .glo "by_closing", .glo "written", .glo "_law_dice", .glo "_law_off", .glo "_law_pairs", .glo "_law_mixed", .glo "_law_yard", .glo "_law_made", .glo "_law_kept", .glo "_law_told", .glo "law", .free "abs", .free "all", .free "bool", .free "dict", .free "enumerate", .free "int", .free "isinstance", .free "len", .free "list", .free "max", .free "min", .free "range", .free "set", .free "sorted", .free "str", .free "tuple", .free "zip", .int "MOST_PLACES" 30, .glo "Yard", .cls "Yard", .noat "Yard" "_many", .noat "Yard" "_ties", .noat "Yard" "_tied", .noat "Yard" "_degrees", .meth "Yard" "many", .meth "Yard" "ties", .meth "Yard" "is_tied", .meth "Yard" "degree", .mkr "Yard", .glo "Said", .cls "Said", .noat "Said" "ins", .noat "Said" "unsaid", .meth "Said" "many_not_out", .mkr "Said", .free "sum", .int "MOST_SEARCHED" 12, .free "reversed"]
abbrev hR : PySem.W.OpenRow := PySem.W.OpenLaw.row PySem.Challenge.rw_denseround_k19_asked_again
/-- what is asked besides -/
def hexb (K : PySem.W.Frag) (g : Addr) : Bool := decide (PySem.W.specialIn K (.ref g) "__get__" = some (some (.builtin "function.__get__"))) && (decide (PySem.W.takesIn K (.ref g) = some false) && PySem.W.fnIn K g)
theorem hexb_ok {K : PySem.W.Frag} {C : Addr} {m : Str} {g : Addr} (h : hexb K g = true) (b : Meth K C m g) (c : PySem.W.copiedNames.contains m = false) : BMeth K C m g := by
  unfold hexb at h
  simp only [Bool.and_eq_true, decide_eq_true_eq] at h
  exact ⟨b, h.1, h.2.1, c, h.2.2⟩
def hexn (K : PySem.W.Frag) (x : Str) (v : Value) : Bool := decide (PySem.W.nsIn K mainGlobals x = some (some v))
def hex (K : PySem.W.Frag) : Bool := hexb K (He.ma K (He.ga K "Said") "many_not_out") && hexn K "combinations" (.type "itertools.combinations")

abbrev hk : PySem.W.Hook := He.hookX 4 hfa hfn [] [] hex
def hob (s : PySem.W.SharedT) : He.AlX := He.obsX 4 hfa hfn [] [] hex (HandSHeadRun.getT s)
theorem hob_eq (s : PySem.W.SharedT) : hob s = hk.obs s.abs := He.obsX_eq (HandSHeadRun.getT_eq s)
abbrev hloose : List PySem.Str := ("Said" : PySem.Str) :: ("nothing_said" : PySem.Str) :: ("said_out" : PySem.Str) :: ("said_in" : PySem.Str) :: ("way_from" : PySem.Str) :: ("leaf_of" : PySem.Str) :: ("barred_tie" : PySem.Str) :: ("tightest_tie" : PySem.Str) :: ("node_of" : PySem.Str) :: ("tree_of" : PySem.Str) :: ("YardError" : PySem.Str) :: ("BadYard" : PySem.Str) :: ("BadOrder" : PySem.Str) :: ("TooMany" : PySem.Str) :: ("MOST_SEARCHED" : PySem.Str) :: ("check_searched" : PySem.Str) :: ("group_of" : PySem.Str) :: ("groups_without" : PySem.Str) :: ("parting" : PySem.Str) :: ("without" : PySem.Str) :: ("ways_home" : PySem.Str) :: ("least_onward" : PySem.Str) :: ("least_round" : PySem.Str) :: ("round_of" : PySem.Str) :: ("counted" : PySem.Str) :: ("check_order" : PySem.Str) :: ("gaps" : PySem.Str) :: ("is_round" : PySem.Str) :: ("begun_behind" : PySem.Str) :: ("turned" : PySem.Str) :: ("least_back" : PySem.Str) :: ("first_turning" : PySem.Str) :: ("rounded" : PySem.Str) :: ("MOST_PLACES" : PySem.Str) :: ("check_yard" : PySem.Str) :: ("Yard" : PySem.Str) :: ("untied" : PySem.Str) :: ("thin" : PySem.Str) :: ("first_with_enough" : PySem.Str) :: ("closed" : PySem.Str) :: ("tied_too" : PySem.Str) :: ("without_gap" : PySem.Str) :: ("opened" : PySem.Str) :: ("by_closing" : PySem.Str) :: ("written" : PySem.Str) :: ("_law_dice" : PySem.Str) :: ("_law_off" : PySem.Str) :: ("_law_pairs" : PySem.Str) :: ("_law_mixed" : PySem.Str) :: ("_law_yard" : PySem.Str) :: ("_law_made" : PySem.Str) :: ("_law_kept" : PySem.Str) :: ("_law_told" : PySem.Str) :: []
theorem hrun (w : World) : HandSHeadRun.RunEqI hR (PySem.W.view hR.prog [0, 63]) hk hob 4000 hloose w := by
  unfold HandSHeadRun.RunEqI
  kernel_rfl
section
variable {K : PySem.W.Frag} {h : Heap} {mg : Str → Option Value}
theorem is_nothing_said (X : K.In h) (G : h.Ns mainGlobals mg) (c : He.SaysD hfa hfn K) : IsDef K mg "nothing_said" s_nothing_said := by
  obtain ⟨fd, F⟩ := c.def_ 0 (d := d_nothing_said) rfl
  exact ⟨_, fd, F, He.glo_ok X G (c.fact 0 (f := .glo "nothing_said") rfl)⟩
theorem is_said_out (X : K.In h) (G : h.Ns mainGlobals mg) (c : He.SaysD hfa hfn K) : IsDef K mg "said_out" s_said_out := by
  obtain ⟨fd, F⟩ := c.def_ 1 (d := d_said_out) rfl
  exact ⟨_, fd, F, He.glo_ok X G (c.fact 1 (f := .glo "said_out") rfl)⟩
theorem is_said_in (X : K.In h) (G : h.Ns mainGlobals mg) (c : He.SaysD hfa hfn K) : IsDef K mg "said_in" s_said_in := by
  obtain ⟨fd, F⟩ := c.def_ 2 (d := d_said_in) rfl
  exact ⟨_, fd, F, He.glo_ok X G (c.fact 2 (f := .glo "said_in") rfl)⟩
theorem is_way_from (X : K.In h) (G : h.Ns mainGlobals mg) (c : He.SaysD hfa hfn K) : IsDef K mg "way_from" s_way_from := by
  obtain ⟨fd, F⟩ := c.def_ 3 (d := d_way_from) rfl
  exact ⟨_, fd, F, He.glo_ok X G (c.fact 3 (f := .glo "way_from") rfl)⟩
theorem is_leaf_of (X : K.In h) (G : h.Ns mainGlobals mg) (c : He.SaysD hfa hfn K) : IsDef K mg "leaf_of" s_leaf_of := by
  obtain ⟨fd, F⟩ := c.def_ 4 (d := d_leaf_of) rfl
  exact ⟨_, fd, F, He.glo_ok X G (c.fact 4 (f := .glo "leaf_of") rfl)⟩
theorem is_barred_tie (X : K.In h) (G : h.Ns mainGlobals mg) (c : He.SaysD hfa hfn K) : IsDef K mg "barred_tie" s_barred_tie := by
  obtain ⟨fd, F⟩ := c.def_ 5 (d := d_barred_tie) rfl
  exact ⟨_, fd, F, He.glo_ok X G (c.fact 5 (f := .glo "barred_tie") rfl)⟩
theorem is_tightest_tie (X : K.In h) (G : h.Ns mainGlobals mg) (c : He.SaysD hfa hfn K) : IsDef K mg "tightest_tie" s_tightest_tie := by
  obtain ⟨fd, F⟩ := c.def_ 6 (d := d_tightest_tie) rfl
  exact ⟨_, fd, F, He.glo_ok X G (c.fact 6 (f := .glo "tightest_tie") rfl)⟩
theorem is_node_of (X : K.In h) (G : h.Ns mainGlobals mg) (c : He.SaysD hfa hfn K) : IsDef K mg "node_of" s_node_of := by
  obtain ⟨fd, F⟩ := c.def_ 7 (d := d_node_of) rfl
  exact ⟨_, fd, F, He.glo_ok X G (c.fact 7 (f := .glo "node_of") rfl)⟩
theorem is_tree_of (X : K.In h) (G : h.Ns mainGlobals mg) (c : He.SaysD hfa hfn K) : IsDef K mg "tree_of" s_tree_of := by
  obtain ⟨fd, F⟩ := c.def_ 8 (d := d_tree_of) rfl
  exact ⟨_, fd, F, He.glo_ok X G (c.fact 8 (f := .glo "tree_of") rfl)⟩
theorem is_check_searched (X : K.In h) (G : h.Ns mainGlobals mg) (c : He.SaysD hfa hfn K) : IsDef K mg "check_searched" s_check_searched := by
  obtain ⟨fd, F⟩ := c.def_ 9 (d := d_check_searched) rfl
  exact ⟨_, fd, F, He.glo_ok X G (c.fact 9 (f := .glo "check_searched") rfl)⟩
theorem is_group_of (X : K.In h) (G : h.Ns mainGlobals mg) (c : He.SaysD hfa hfn K) : IsDef K mg "group_of" s_group_of := by
  obtain ⟨fd, F⟩ := c.def_ 10 (d := d_group_of) rfl
  exact ⟨_, fd, F, He.glo_ok X G (c.fact 10 (f := .glo "group_of") rfl)⟩
theorem is_groups_without (X : K.In h) (G : h.Ns mainGlobals mg) (c : He.SaysD hfa hfn K) : IsDef K mg "groups_without" s_groups_without := by
  obtain ⟨fd, F⟩ := c.def_ 11 (d := d_groups_without) rfl
  exact ⟨_, fd, F, He.glo_ok X G (c.fact 11 (f := .glo "groups_without") rfl)⟩
theorem is_parting (X : K.In h) (G : h.Ns mainGlobals mg) (c : He.SaysD hfa hfn K) : IsDef K mg "parting" s_parting := by
  obtain ⟨fd, F⟩ := c.def_ 12 (d := d_parting) rfl
  exact ⟨_, fd, F, He.glo_ok X G (c.fact 12 (f := .glo "parting") rfl)⟩
theorem is_without (X : K.In h) (G : h.Ns mainGlobals mg) (c : He.SaysD hfa hfn K) : IsDef K mg "without" s_without := by
  obtain ⟨fd, F⟩ := c.def_ 13 (d := d_without) rfl
  exact ⟨_, fd, F, He.glo_ok X G (c.fact 13 (f := .glo "without") rfl)⟩
theorem is_ways_home (X : K.In h) (G : h.Ns mainGlobals mg) (c : He.SaysD hfa hfn K) : IsDef K mg "ways_home" s_ways_home := by
  obtain ⟨fd, F⟩ := c.def_ 14 (d := d_ways_home) rfl
  exact ⟨_, fd, F, He.glo_ok X G (c.fact 14 (f := .glo "ways_home") rfl)⟩
theorem is_least_onward (X : K.In h) (G : h.Ns mainGlobals mg) (c : He.SaysD hfa hfn K) : IsDef K mg "least_onward" s_least_onward := by
  obtain ⟨fd, F⟩ := c.def_ 15 (d := d_least_onward) rfl
  exact ⟨_, fd, F, He.glo_ok X G (c.fact 15 (f := .glo "least_onward") rfl)⟩
theorem is_least_round (X : K.In h) (G : h.Ns mainGlobals mg) (c : He.SaysD hfa hfn K) : IsDef K mg "least_round" s_least_round := by
  obtain ⟨fd, F⟩ := c.def_ 16 (d := d_least_round) rfl
  exact ⟨_, fd, F, He.glo_ok X G (c.fact 16 (f := .glo "least_round") rfl)⟩
theorem is_round_of (X : K.In h) (G : h.Ns mainGlobals mg) (c : He.SaysD hfa hfn K) : IsDef K mg "round_of" s_round_of := by
  obtain ⟨fd, F⟩ := c.def_ 17 (d := d_round_of) rfl
  exact ⟨_, fd, F, He.glo_ok X G (c.fact 17 (f := .glo "round_of") rfl)⟩
theorem is_counted (X : K.In h) (G : h.Ns mainGlobals mg) (c : He.SaysD hfa hfn K) : IsDef K mg "counted" s_counted := by
  obtain ⟨fd, F⟩ := c.def_ 18 (d := d_counted) rfl
  exact ⟨_, fd, F, He.glo_ok X G (c.fact 18 (f := .glo "counted") rfl)⟩
theorem is_check_order (X : K.In h) (G : h.Ns mainGlobals mg) (c : He.SaysD hfa hfn K) : IsDef K mg "check_order" s_check_order := by
  obtain ⟨fd, F⟩ := c.def_ 19 (d := d_check_order) rfl
  exact ⟨_, fd, F, He.glo_ok X G (c.fact 19 (f := .glo "check_order") rfl)⟩
theorem is_gaps (X : K.In h) (G : h.Ns mainGlobals mg) (c : He.SaysD hfa hfn K) : IsDef K mg "gaps" s_gaps := by
  obtain ⟨fd, F⟩ := c.def_ 20 (d := d_gaps) rfl
  exact ⟨_, fd, F, He.glo_ok X G (c.fact 20 (f := .glo "gaps") rfl)⟩
theorem is_is_round (X : K.In h) (G : h.Ns mainGlobals mg) (c : He.SaysD hfa hfn K) : IsDef K mg "is_round" s_is_round := by
  obtain ⟨fd, F⟩ := c.def_ 21 (d := d_is_round) rfl
  exact ⟨_, fd, F, He.glo_ok X G (c.fact 21 (f := .glo "is_round") rfl)⟩
theorem is_begun_behind (X : K.In h) (G : h.Ns mainGlobals mg) (c : He.SaysD hfa hfn K) : IsDef K mg "begun_behind" s_begun_behind := by
  obtain ⟨fd, F⟩ := c.def_ 22 (d := d_begun_behind) rfl
  exact ⟨_, fd, F, He.glo_ok X G (c.fact 22 (f := .glo "begun_behind") rfl)⟩
theorem is_turned (X : K.In h) (G : h.Ns mainGlobals mg) (c : He.SaysD hfa hfn K) : IsDef K mg "turned" s_turned := by
  obtain ⟨fd, F⟩ := c.def_ 23 (d := d_turned) rfl
  exact ⟨_, fd, F, He.glo_ok X G (c.fact 23 (f := .glo "turned") rfl)⟩
theorem is_least_back (X : K.In h) (G : h.Ns mainGlobals mg) (c : He.SaysD hfa hfn K) : IsDef K mg "least_back" s_least_back := by
  obtain ⟨fd, F⟩ := c.def_ 24 (d := d_least_back) rfl
  exact ⟨_, fd, F, He.glo_ok X G (c.fact 24 (f := .glo "least_back") rfl)⟩
theorem is_first_turning (X : K.In h) (G : h.Ns mainGlobals mg) (c : He.SaysD hfa hfn K) : IsDef K mg "first_turning" s_first_turning := by
  obtain ⟨fd, F⟩ := c.def_ 25 (d := d_first_turning) rfl
  exact ⟨_, fd, F, He.glo_ok X G (c.fact 25 (f := .glo "first_turning") rfl)⟩
theorem is_rounded (X : K.In h) (G : h.Ns mainGlobals mg) (c : He.SaysD hfa hfn K) : IsDef K mg "rounded" s_rounded := by
  obtain ⟨fd, F⟩ := c.def_ 26 (d := d_rounded) rfl
  exact ⟨_, fd, F, He.glo_ok X G (c.fact 26 (f := .glo "rounded") rfl)⟩
theorem is_check_yard (X : K.In h) (G : h.Ns mainGlobals mg) (c : He.SaysD hfa hfn K) : IsDef K mg "check_yard" s_check_yard := by
  obtain ⟨fd, F⟩ := c.def_ 27 (d := d_check_yard) rfl
  exact ⟨_, fd, F, He.glo_ok X G (c.fact 27 (f := .glo "check_yard") rfl)⟩
theorem is_untied (X : K.In h) (G : h.Ns mainGlobals mg) (c : He.SaysD hfa hfn K) : IsDef K mg "untied" s_untied := by
  obtain ⟨fd, F⟩ := c.def_ 28 (d := d_untied) rfl
  exact ⟨_, fd, F, He.glo_ok X G (c.fact 28 (f := .glo "untied") rfl)⟩
theorem is_thin (X : K.In h) (G : h.Ns mainGlobals mg) (c : He.SaysD hfa hfn K) : IsDef K mg "thin" s_thin := by
  obtain ⟨fd, F⟩ := c.def_ 29 (d := d_thin) rfl
  exact ⟨_, fd, F, He.glo_ok X G (c.fact 29 (f := .glo "thin") rfl)⟩
theorem is_first_with_enough (X : K.In h) (G : h.Ns mainGlobals mg) (c : He.SaysD hfa hfn K) : IsDef K mg "first_with_enough" s_first_with_enough := by
  obtain ⟨fd, F⟩ := c.def_ 30 (d := d_first_with_enough) rfl
  exact ⟨_, fd, F, He.glo_ok X G (c.fact 30 (f := .glo "first_with_enough") rfl)⟩
theorem is_closed (X : K.In h) (G : h.Ns mainGlobals mg) (c : He.SaysD hfa hfn K) : IsDef K mg "closed" s_closed := by
  obtain ⟨fd, F⟩ := c.def_ 31 (d := d_closed) rfl
  exact ⟨_, fd, F, He.glo_ok X G (c.fact 31 (f := .glo "closed") rfl)⟩
theorem is_tied_too (X : K.In h) (G : h.Ns mainGlobals mg) (c : He.SaysD hfa hfn K) : IsDef K mg "tied_too" s_tied_too := by
  obtain ⟨fd, F⟩ := c.def_ 32 (d := d_tied_too) rfl
  exact ⟨_, fd, F, He.glo_ok X G (c.fact 32 (f := .glo "tied_too") rfl)⟩
theorem is_without_gap (X : K.In h) (G : h.Ns mainGlobals mg) (c : He.SaysD hfa hfn K) : IsDef K mg "without_gap" s_without_gap := by
  obtain ⟨fd, F⟩ := c.def_ 33 (d := d_without_gap) rfl
  exact ⟨_, fd, F, He.glo_ok X G (c.fact 33 (f := .glo "without_gap") rfl)⟩
theorem is_opened (X : K.In h) (G : h.Ns mainGlobals mg) (c : He.SaysD hfa hfn K) : IsDef K mg "opened" s_opened := by
  obtain ⟨fd, F⟩ := c.def_ 34 (d := d_opened) rfl
  exact ⟨_, fd, F, He.glo_ok X G (c.fact 34 (f := .glo "opened") rfl)⟩
theorem is_by_closing (X : K.In h) (G : h.Ns mainGlobals mg) (c : He.SaysD hfa hfn K) : IsDef K mg "by_closing" s_by_closing := by
  obtain ⟨fd, F⟩ := c.def_ 35 (d := d_by_closing) rfl
  exact ⟨_, fd, F, He.glo_ok X G (c.fact 35 (f := .glo "by_closing") rfl)⟩
theorem is_written (X : K.In h) (G : h.Ns mainGlobals mg) (c : He.SaysD hfa hfn K) : IsDef K mg "written" s_written := by
  obtain ⟨fd, F⟩ := c.def_ 36 (d := d_written) rfl
  exact ⟨_, fd, F, He.glo_ok X G (c.fact 36 (f := .glo "written") rfl)⟩
theorem is__law_dice (X : K.In h) (G : h.Ns mainGlobals mg) (c : He.SaysD hfa hfn K) : IsDef K mg "_law_dice" s__law_dice := by
  obtain ⟨fd, F⟩ := c.def_ 37 (d := d__law_dice) rfl
  exact ⟨_, fd, F, He.glo_ok X G (c.fact 37 (f := .glo "_law_dice") rfl)⟩
theorem is__law_off (X : K.In h) (G : h.Ns mainGlobals mg) (c : He.SaysD hfa hfn K) : IsDef K mg "_law_off" s__law_off := by
  obtain ⟨fd, F⟩ := c.def_ 38 (d := d__law_off) rfl
  exact ⟨_, fd, F, He.glo_ok X G (c.fact 38 (f := .glo "_law_off") rfl)⟩
theorem is__law_pairs (X : K.In h) (G : h.Ns mainGlobals mg) (c : He.SaysD hfa hfn K) : IsDef K mg "_law_pairs" s__law_pairs := by
  obtain ⟨fd, F⟩ := c.def_ 39 (d := d__law_pairs) rfl
  exact ⟨_, fd, F, He.glo_ok X G (c.fact 39 (f := .glo "_law_pairs") rfl)⟩
theorem is__law_mixed (X : K.In h) (G : h.Ns mainGlobals mg) (c : He.SaysD hfa hfn K) : IsDef K mg "_law_mixed" s__law_mixed := by
  obtain ⟨fd, F⟩ := c.def_ 40 (d := d__law_mixed) rfl
  exact ⟨_, fd, F, He.glo_ok X G (c.fact 40 (f := .glo "_law_mixed") rfl)⟩
theorem is__law_yard (X : K.In h) (G : h.Ns mainGlobals mg) (c : He.SaysD hfa hfn K) : IsDef K mg "_law_yard" s__law_yard := by
  obtain ⟨fd, F⟩ := c.def_ 41 (d := d__law_yard) rfl
  exact ⟨_, fd, F, He.glo_ok X G (c.fact 41 (f := .glo "_law_yard") rfl)⟩
theorem is__law_made (X : K.In h) (G : h.Ns mainGlobals mg) (c : He.SaysD hfa hfn K) : IsDef K mg "_law_made" s__law_made := by
  obtain ⟨fd, F⟩ := c.def_ 42 (d := d__law_made) rfl
  exact ⟨_, fd, F, He.glo_ok X G (c.fact 42 (f := .glo "_law_made") rfl)⟩
theorem is__law_kept (X : K.In h) (G : h.Ns mainGlobals mg) (c : He.SaysD hfa hfn K) : IsDef K mg "_law_kept" s__law_kept := by
  obtain ⟨fd, F⟩ := c.def_ 43 (d := d__law_kept) rfl
  exact ⟨_, fd, F, He.glo_ok X G (c.fact 43 (f := .glo "_law_kept") rfl)⟩
theorem is__law_told (X : K.In h) (G : h.Ns mainGlobals mg) (c : He.SaysD hfa hfn K) : IsDef K mg "_law_told" s__law_told := by
  obtain ⟨fd, F⟩ := c.def_ 44 (d := d__law_told) rfl
  exact ⟨_, fd, F, He.glo_ok X G (c.fact 44 (f := .glo "_law_told") rfl)⟩
theorem is_law (X : K.In h) (G : h.Ns mainGlobals mg) (c : He.SaysD hfa hfn K) : IsDef K mg "law" s_law := by
  obtain ⟨fd, F⟩ := c.def_ 45 (d := d_law) rfl
  exact ⟨_, fd, F, He.glo_ok X G (c.fact 45 (f := .glo "law") rfl)⟩
theorem im_init (c : He.SaysD hfa hfn K) : IsMeth K (He.ga K "Yard") "__init__" "Yard.__init__" s_Yard_init := by
  obtain ⟨fd, F⟩ := c.def_ 46 (d := dm_init) rfl
  have M := He.mkr_ok (c.fact 74 (f := .mkr "Yard") rfl)
  exact ⟨_, fd, F, ⟨M.init, M.fn, F.kp⟩⟩
theorem im_many (c : He.SaysD hfa hfn K) : IsMeth K (He.ga K "Yard") "many" "Yard.many" s_Yard_many := by
  obtain ⟨fd, F⟩ := c.def_ 47 (d := dm_many) rfl
  exact ⟨_, fd, F, He.meth_ok (c.fact 70 (f := .meth "Yard" "many") rfl)⟩
theorem im_ties (c : He.SaysD hfa hfn K) : IsMeth K (He.ga K "Yard") "ties" "Yard.ties" s_Yard_ties := by
  obtain ⟨fd, F⟩ := c.def_ 48 (d := dm_ties) rfl
  exact ⟨_, fd, F, He.meth_ok (c.fact 71 (f := .meth "Yard" "ties") rfl)⟩
theorem im_is_tied (c : He.SaysD hfa hfn K) : IsMeth K (He.ga K "Yard") "is_tied" "Yard.is_tied" s_Yard_is_tied := by
  obtain ⟨fd, F⟩ := c.def_ 49 (d := dm_is_tied) rfl
  exact ⟨_, fd, F, He.meth_ok (c.fact 72 (f := .meth "Yard" "is_tied") rfl)⟩
theorem im_degree (c : He.SaysD hfa hfn K) : IsMeth K (He.ga K "Yard") "degree" "Yard.degree" s_Yard_degree := by
  obtain ⟨fd, F⟩ := c.def_ 50 (d := dm_degree) rfl
  exact ⟨_, fd, F, He.meth_ok (c.fact 73 (f := .meth "Yard" "degree") rfl)⟩
theorem h_mk (c : He.SaysD hfa hfn K) : Mk K (He.ga K "Yard") (He.ma K (He.ga K "Yard") "__init__") := He.mkr_ok (c.fact 74 (f := .mkr "Yard") rfl)
theorem h_txt (X : K.In h) (G : h.Ns mainGlobals mg) (c : He.SaysD hfa hfn K) : YTxt K mg (He.ga K "Yard") := ⟨He.cls_ok (c.fact 65 (f := .cls "Yard") rfl), He.noat_ok (c.fact 66 (f := .noat "Yard" "_many") rfl), He.noat_ok (c.fact 67 (f := .noat "Yard" "_ties") rfl), He.noat_ok (c.fact 68 (f := .noat "Yard" "_tied") rfl), He.noat_ok (c.fact 69 (f := .noat "Yard" "_degrees") rfl), He.glo_ok X G (c.fact 64 (f := .glo "Yard") rfl)⟩
theorem in_init (c : He.SaysD hfa hfn K) : IsMeth K (He.ga K "Said") "__init__" "Said.__init__" s_Said_init := by
  obtain ⟨fd, F⟩ := c.def_ 51 (d := dn_init) rfl
  have M := He.mkr_ok (c.fact 80 (f := .mkr "Said") rfl)
  exact ⟨_, fd, F, ⟨M.init, M.fn, F.kp⟩⟩
theorem inm_many_not_out (c : He.SaysD hfa hfn K) : Meth K (He.ga K "Said") "many_not_out" (He.ma K (He.ga K "Said") "many_not_out") := He.meth_ok (c.fact 79 (f := .meth "Said" "many_not_out") rfl)
theorem in_many_not_out (c : He.SaysD hfa hfn K) : IsMeth K (He.ga K "Said") "many_not_out" "Said.many_not_out" s_Said_many_not_out := by
  obtain ⟨fd, F⟩ := c.def_ 52 (d := dn_many_not_out) rfl
  exact ⟨_, fd, F, inm_many_not_out c⟩
theorem h_mk2 (c : He.SaysD hfa hfn K) : Mk K (He.ga K "Said") (He.ma K (He.ga K "Said") "__init__") := He.mkr_ok (c.fact 80 (f := .mkr "Said") rfl)
theorem h_txt2 (X : K.In h) (G : h.Ns mainGlobals mg) (c : He.SaysD hfa hfn K) : STxt K mg (He.ga K "Said") := ⟨He.cls_ok (c.fact 76 (f := .cls "Said") rfl), He.noat_ok (c.fact 77 (f := .noat "Said" "ins") rfl), He.noat_ok (c.fact 78 (f := .noat "Said" "unsaid") rfl), He.glo_ok X G (c.fact 75 (f := .glo "Said") rfl)⟩
theorem h_blt (X : K.In h) (G : h.Ns mainGlobals mg) (c : He.SaysD hfa hfn K) : Blt mg := ⟨He.free_ok X G (c.fact 46 (f := .free "abs") rfl), He.free_ok X G (c.fact 47 (f := .free "all") rfl), He.free_ok X G (c.fact 48 (f := .free "bool") rfl), He.free_ok X G (c.fact 49 (f := .free "dict") rfl), He.free_ok X G (c.fact 50 (f := .free "enumerate") rfl), He.free_ok X G (c.fact 51 (f := .free "int") rfl), He.free_ok X G (c.fact 52 (f := .free "isinstance") rfl), He.free_ok X G (c.fact 53 (f := .free "len") rfl), He.free_ok X G (c.fact 54 (f := .free "list") rfl), He.free_ok X G (c.fact 55 (f := .free "max") rfl), He.free_ok X G (c.fact 56 (f := .free "min") rfl), He.free_ok X G (c.fact 57 (f := .free "range") rfl), He.free_ok X G (c.fact 58 (f := .free "set") rfl), He.free_ok X G (c.fact 59 (f := .free "sorted") rfl), He.free_ok X G (c.fact 60 (f := .free "str") rfl), He.free_ok X G (c.fact 61 (f := .free "tuple") rfl), He.free_ok X G (c.fact 62 (f := .free "zip") rfl)⟩
theorem hi_MOST_PLACES (X : K.In h) (G : h.Ns mainGlobals mg) (c : He.SaysD hfa hfn K) : ∃ t, mg "MOST_PLACES" = some (.int 30 t) := He.int_ok X G (c.fact 63 (f := .int "MOST_PLACES" 30) rfl)
theorem hx_free_sum (c : He.SaysD hfa hfn K) : ((.free "sum") : He.Fa).ok K = true := c.fact 81 (f := .free "sum") rfl
theorem hx_int_MOST_SEARCHED_12 (c : He.SaysD hfa hfn K) : ((.int "MOST_SEARCHED" 12) : He.Fa).ok K = true := c.fact 82 (f := .int "MOST_SEARCHED" 12) rfl
theorem hx_free_reversed (c : He.SaysD hfa hfn K) : ((.free "reversed") : He.Fa).ok K = true := c.fact 83 (f := .free "reversed") rfl
end

section
variable {P : Program} {w : World} {K : PySem.W.Frag} {h base : Heap} {mg : Str → Option Value}
theorem ok_law {f : Addr} {fd : FuncData} (F : FunD K "law" "law" (defArgs s_law) (defBody s_law) (defScope s_law) [] [] f fd) (X : K.In h) (G : h.Ns mainGlobals mg) (c : He.SaysD hfa hfn K) (cx : hex K = true) : FnOk P w K mg base CX0 81 f fd ["_law_script"] (spLaw K) := by
  have B := h_blt X G c
  have T := h_txt X G c
  have M := h_mk c
  obtain ⟨t, gM⟩ := hi_MOST_PLACES X G c
  have DI : Has P w K mg base 1 "_law_dice" ["_law_script", "_law_k"] (spDice K) := has_dice (is__law_dice X G c) B
  have O : Has P w K mg base 1 "_law_off" ["_law_d", "_law_most"] spOff := has_off (is__law_off X G c) B
  have PR : Has P w K mg base 1 "_law_pairs" ["_law_many"] spPairs := has_pairs (is__law_pairs X G c) B
  have MX : Has P w K mg base 2 "_law_mixed" ["_law_d", "_law_row"] (spMixed K) := has_mixed (is__law_mixed X G c) B O
  have YA : Has P w K mg base 3 "_law_yard" ["_law_d", "_law_least", "_law_most"] spYard := has_yard (is__law_yard X G c) B O PR MX
  have CH : Has P w K mg base 1 "check_yard" ["many", "ties"] spCheck := has_check (is_check_yard X G c) B gM
  have IN := has_init (P := P) (w := w) (base := base) (im_init c) B T CH
  have MA := has_made (is__law_made X G c) B T IN M.makes M.kp
  have MN := has_many (P := P) (w := w) (base := base) (im_many c) T
  have TD := has_tied (P := P) (w := w) (base := base) (im_is_tied c) T
  obtain ⟨tS, gS⟩ := He.int_ok X G (hx_int_MOST_SEARCHED_12 c)
  have CS := has_searched (is_check_searched X G c) T gS MN
  have WO : Has P w K mg base 1 "without" ["places", "place"] spWithout := has_without (is_without X G c) B
  have WH := ways_all (is_ways_home X G c) B (He.free_ok X G (hx_free_sum c)) T TD WO
  have CO := has_counted (is_counted X G c) B T MN CS WH
  have DG := has_deg (P := P) (w := w) (base := base) (im_degree c) T
  have UT := has_untied (is_untied X G c) B T MN TD
  have FW : Has P w K mg base 1 "first_with_enough" ["pairs", "degrees"] spFwe := has_fwe (is_first_with_enough X G c) B
  have CL := has_closed (is_closed X G c) B T MN UT DG FW
  have CK := has_checkord (is_check_order X G c) B T MN
  have GP := has_gaps (is_gaps X G c) B T CK TD
  have IR := has_isround (is_is_round X G c) T GP MN
  have cx2 := Bool.and_eq_true_iff.mp cx
  have BM := hexb_ok cx2.1 (inm_many_not_out c) (by decide +kernel)
  have CB : mg "combinations" = some (.type "itertools.combinations") := PySem.W.mg_of X G (of_decide_eq_true cx2.2)
  have TS := h_txt2 X G c
  have MS := h_mk2 c
  have SI := has_sinit (P := P) (w := w) (base := base) (in_init c) TS
  have MNO := mno_fn (P := P) (w := w) (base := base) (in_many_not_out c) B TS
  have NS := has_nothing (is_nothing_said X G c) B T TS MN TD SI MS.makes MS.kp
  have SO := has_sout (is_said_out X G c) B TS SI MS.makes MS.kp
  have SN := has_sin (is_said_in X G c) B TS SI MS.makes MS.kp SO
  have WF := has_wayfromF (P := P) (w := w) (base := base) (is_way_from X G c)
  have LF := has_leafF (is_leaf_of X G c) B TS MNO WF
  have BT := has_barredF (is_barred_tie X G c) B TS WF
  have TG := has_tightF (is_tightest_tie X G c) B TS MNO BM
  have ND := node_allF (is_node_of X G c) B LF BT TG SO SN 72
  have TR := has_treeF (is_tree_of X G c) NS ND
  have GO := has_group (is_group_of X G c) B T TD
  have GW := has_groups (is_groups_without X G c) B T MN GO
  have PA := has_parting (is_parting X G c) B CB T MN CS GW
  have LO := has_leaston (is_least_onward X G c) T TD WO WH
  have LE := has_leastr (is_least_round X G c) B T MN WO LO
  have RO := has_roundF (is_round_of X G c) B T MN CS LE PA TR
  have TI := has_ties (P := P) (w := w) (base := base) (im_ties c) B T
  have BG : Has P w K mg base 1 "begun_behind" ["order", "at"] spBegun := has_begun (is_begun_behind X G c)
  have TU := has_turned (is_turned X G c) B CK BG
  have LB := has_least (is_least_back X G c) B T BG TD
  have FT := has_first (is_first_turning X G c) GP LB
  have RD := has_rounded (is_rounded X G c) B CK FT TU IR
  have TH := has_thin (is_thin X G c) B T MN UT DG
  have TT := has_tiedtoo (is_tied_too X G c) B T IN M.makes M.kp MN TI
  have WG := has_back (is_without_gap X G c) GP LB TU
  have OP := has_opened (is_opened X G c) B (He.free_ok X G (hx_free_reversed c)) CL IR TT WG
  have BC := has_byclosing (is_by_closing X G c) B T MN UT TT CL OP
  have WR := has_written (is_written X G c) B T TI MN
  have TL := has_told (is__law_told X G c) B T TI TH GP RD TU CL GW CO WR RO BC PA
  have KE := has_kept (P := P) (w := w) (base := base) (is__law_kept X G c) B 77
  exact ok_lawK19 F B DI MX YA MA TL KE
theorem hfacts {f : Addr} (X : K.In h) (G : h.Ns mainGlobals mg) (hf : mg ("law" : Str) = some (.ref f)) (c : He.SaysD hfa hfn K) (cx : hex K = true) :
    ∃ fd : FuncData, (∀ (s : Shared) (v : Value), BindsTo s fd ⟨[v], []⟩ [("_law_script", v)]) ∧ ∀ base : Heap, K.In base → base.Ns mainGlobals mg → FnOk P w K mg base CX0 81 f fd ["_law_script"] (spLaw K) := by
  obtain ⟨fd, F⟩ := c.def_ 45 (d := d_law) rfl
  have e := hf.symm.trans (He.glo_ok X G (c.fact 45 (f := .glo "law") rfl))
  cases e
  have b := FunD.bindsA (ps := ["_law_script"]) F fun _ _ _ _ _ _ us hl => match us, hl with | [_], _ => rfl
  exact ⟨fd, fun s v => b s [v] rfl, fun base _ _ => ok_law F X G c cx⟩
end
end DR
open PySem PySem.W PySem.Calls PyProof.Rows
theorem PySem.Challenge.cw_denseround_k19_asked_again_holds : PySem.Challenge.rw_denseround_k19_asked_again.Holds := by
  w_on; o_law
  refine HandSHeadRun.head_imp (r := OpenLaw.row PySem.Challenge.rw_denseround_k19_asked_again) (q := view (OpenLaw.row PySem.Challenge.rw_denseround_k19_asked_again).prog [0, 63]) (H := DR.hk) (ob := DR.hob) (M := 4000) (loose := DR.hloose) (d := HandSHeadRun.topDef (OpenLaw.row PySem.Challenge.rw_denseround_k19_asked_again).prog 63) (kwd := []) DR.hob_eq
    DR.hrun (by kernel_rfl) (by kernel_rfl) (by kernel_rfl) (by rfl) (by first | assumption | decide +kernel) (by decide +kernel) ⟨rfl, rfl, rfl, rfl, rfl, by decide +kernel⟩ ?hw ?hc
  case hw => w_witness2
  case hc =>
    refine L2.walk_ofE (l := PySem.Challenge.rw_denseround_k19_asked_again) (n := 63) (k := 81) (x := "_law_script") (CX := L2.CX0) rfl (by decide) (by kernel_rfl) ⟨rfl, by decide, by decide⟩ ?F (fun _ _ _ _ z => z)
    intro w mg fa h Y G hmg0
    obtain ⟨K, KX, c⟩ := Y
    have hmg : mg ("law" : PySem.Str) = some (.ref fa) := by
      have e : (HandSHeadRun.topDef (OpenLaw.row PySem.Challenge.rw_denseround_k19_asked_again).prog 63).name = ("law" : PySem.Str) := by kernel_rfl
      rw [← e]
      exact hmg0
    obtain ⟨fd, hb, hF⟩ := DR.hfacts (P := (PySem.Challenge.rw_denseround_k19_asked_again).prog) (w := w) KX G hmg c.t.d c.more
    exact ⟨K, fd, DR.spLaw K, KX, hb, fun H a ns hl _ hS => ⟨a, ns, rfl, hl, hS, fun _ => rfl⟩, hF⟩
