import PyProof.Rows.All
import Wide.All
import OpenK.AllK
import HandS.HeadHook1
import HandS.HeadHook2
import HandS.HeadHook3
import HandS.HeadHook4
import HandS.TupSets
import HandS.ForMost
import HandS.SetKeys
import HandS.DictComp
import HandS.Defaults
import HandS.SortInts
import HandS.Conv
import HandS.IsInst
import HandS.Deep
import HandS.Style
import HandS.Codes
import HandS.FStr
import HandS.Text
import HandS.Star
import HandS.AnyAll
import HandS.GenOver
import HandS.GenList
import HandS.Comp
import HandS.HotCalls
import HandS.ExcCtx
import HandS.ExcIs
import HandS.ExcOwn
import KE.KLam
import HandS.Lambda
import HandS.Iter
import KE.KUnpackStar
import HandS.Base
import HandS.Call
import HandS.ExcInit
import HandS.ExcField
import PyProof.StrLawsChain
import KE.GoesEnumKw
import HandS.SortKw
import PyProof.CompFree
import HandS.List
import KE.KExcIs
import HandS.Steps
import KE.KDictZip
import Wide.FinOn
import KE.KStateDown
import HandS.Head0
import HandS.Head1
import HandS.Head2
import HandS.HeadEnd
import HandS.EndTab
import HandS.HeadWalk
import PySem.Challenge.RW_denseround_k18_texts_refused
set_option Elab.async false
set_option linter.all false
set_option maxRecDepth 100000
set_option maxHeartbeats 4000000
/-! ### the Hook that tells of the statics, too -/
namespace DR
open PySem PySem.Spec PyProof.Rows L2
open He (Fa DefD Tab Defn frT asD obsT valT AlX valX tabsB emptyTab SaysX cT)
def asY (g : Addr → Option Obj) (n : Nat) : List Addr := cStatics :: asD g n
def obsY (n : Nat) (fa : List Fa) (fn : List DefD) (ts : List Tab) (tf : List Defn) (ex : PySem.W.Frag → Bool) (g : Addr → Option Obj) : AlX := (obsT fa fn ts (frT g (asY g n)), ex (frT g (asY g n)) && tabsB g tf (frT g (asY g n)))
theorem saysY_of {n : Nat} {fa : List Fa} {fn : List DefD} {ts : List Tab} {tf : List Defn} {ex : PySem.W.Frag → Bool} {w : World} {h : Heap} (e : obsY n fa fn ts tf ex h.get? = valX fn ts w) : SaysX fa fn ts tf ex w h (frT h.get? (asY h.get? n)) := by
  have e1 : obsT fa fn ts (frT h.get? (asY h.get? n)) = valT fn ts w := congrArg (fun z : AlX => z.1) e
  have e2 : (ex (frT h.get? (asY h.get? n)) && tabsB h.get? tf (frT h.get? (asY h.get? n))) = true := congrArg (fun z : AlX => z.2) e
  obtain ⟨h1, h2⟩ := He.ba e2
  have key : ∀ p ∈ tf, PySem.W.codeHdIn (frT h.get? (asY h.get? n)) (cT (frT h.get? (asY h.get? n)) p).1 (cT (frT h.get? (asY h.get? n)) p).2 = true ∧ ∃ o, h.get? (cT (frT h.get? (asY h.get? n)) p).2 = some o ∧ emptyTab o = true := fun p hp => by
    obtain ⟨h3, h4⟩ := He.ba (List.all_eq_true.mp h2 p hp)
    refine ⟨h3, ?_⟩
    cases q : h.get? (cT (frT h.get? (asY h.get? n)) p).2 with
    | none =>
      rw [q] at h4
      cases h4
    | some o =>
      rw [q] at h4
      exact ⟨o, rfl, h4⟩
  exact ⟨e1, h1, fun p hp => (key p hp).1, fun p hp => by
    obtain ⟨_, o, q, z⟩ := key p hp
    exact He.frT_none q z, fun p hp => by
    obtain ⟨_, o, q, z⟩ := key p hp
    rw [q, He.emptyTab_eq z]⟩
def hookY (n : Nat) (fa : List Fa) (fn : List DefD) (ts : List Tab) (tf : List Defn) (ex : PySem.W.Frag → Bool) : PySem.W.Hook where
  α := AlX
  obs := fun s => obsY n fa fn ts tf ex s.heap.get?
  val := fun w => valX fn ts w
  says := fun w h => ∃ K : PySem.W.Frag, K.In h ∧ SaysX fa fn ts tf ex w h K
  of := fun _ _ e => ⟨_, He.frT_in, saysY_of e⟩
  keeps := fun _ _ _ ⟨K, hK, c⟩ k => ⟨K, PySem.W.Frag.In.keeps hK k, ⟨c.t, c.more, c.hd, c.out, fun p hp => k _ _ (c.empty p hp)⟩⟩
theorem obsY_eq {n : Nat} {fa : List Fa} {fn : List DefD} {ts : List Tab} {tf : List Defn} {ex : PySem.W.Frag → Bool} {g : Addr → Option Obj} {s : Shared} (h : ∀ a, g a = s.heap.get? a) : obsY n fa fn ts tf ex g = (hookY n fa fn ts tf ex).obs s := by
  have e : g = s.heap.get? := funext h
  rw [e] <;> rfl
end DR

set_option Elab.async false
set_option linter.all false
set_option maxRecDepth 100000
set_option maxHeartbeats 4000000
/-! Sets of tuples of ints with up to some hundred members: the table's masks 7, 31, 127, 511 and 2047. -/
namespace DR
open PySem PySem.Spec PyProof.Rows L2

/-! ### every slot is met: the round of x -> 5 x + 1, as bits of one number -/
def cov (m : Nat) : Nat → Nat → Nat → Nat
  | 0, _, acc => acc
  | n + 1, x, acc => cov m n ((x * 5 + 1) % (m + 1)) (acc ||| (1 <<< x))
theorem lcgI_shift (m x : Nat) : ∀ b, lcgI m ((x * 5 + 1) % (m + 1)) b = lcgI m x (b + 1)
  | 0 => rfl
  | b + 1 => by
    show (lcgI m ((x * 5 + 1) % (m + 1)) b * 5 + 1) % (m + 1) = (lcgI m x (b + 1) * 5 + 1) % (m + 1)
    rw [lcgI_shift m x b]
theorem cov_bit (m : Nat) : ∀ (n x acc j : Nat), (cov m n x acc).testBit j = true → acc.testBit j = true ∨ ∃ b, b < n ∧ lcgI m x b = j
  | 0, _, _, _, h => .inl h
  | n + 1, x, acc, j, h => by
    rcases cov_bit m n _ _ j h with q | ⟨b, hb, e⟩
    · rw [Nat.testBit_or, Nat.one_shiftLeft, Nat.testBit_two_pow, Bool.or_eq_true, decide_eq_true_eq] at q
      rcases q with q | q
      · exact .inl q
      · exact .inr ⟨0, Nat.succ_pos _, q⟩
    · exact .inr ⟨b + 1, Nat.succ_lt_succ hb, by rw [← lcgI_shift]; exact e⟩
/-- a mask that serves -/
structure Good (m : Nat) : Prop where
  five : m = 7 ∨ m = 31 ∨ m = 127 ∨ m = 511 ∨ m = 2047
  all : ∀ i j, i ≤ m → j ≤ m → ∃ k, k ≤ m ∧ lcgI m i k = j
theorem lcgI_tail (m x a : Nat) : ∀ k, lcgI m (lcgI m x a) k = lcgI m x (a + k)
  | 0 => rfl
  | k + 1 => by
    show (lcgI m (lcgI m x a) k * 5 + 1) % (m + 1) = (lcgI m x (a + k) * 5 + 1) % (m + 1)
    rw [lcgI_tail m x a k]
theorem Good.odd {m : Nat} (g : Good m) : m % 2 = 1 := by
  rcases g.five with e | e | e | e | e <;> subst e <;> rfl
theorem Good.big {m : Nat} (g : Good m) : m ≤ 2047 := by
  have := g.five
  omega
theorem good_of (m : Nat) (h1 : m = 7 ∨ m = 31 ∨ m = 127 ∨ m = 511 ∨ m = 2047) (h3 : cov m (m + 1) 0 0 = 2 ^ (m + 1) - 1) (h4 : lcgI m 0 (m + 1) = 0) : Good m where
  five := h1
  all := fun i j hi hj => by
    have from0 : ∀ x, x ≤ m → ∃ b, b < m + 1 ∧ lcgI m 0 b = x := fun x hx => by
      have q : (cov m (m + 1) 0 0).testBit x = true := by
        rw [h3, Nat.testBit_two_pow_sub_one]
        exact decide_eq_true (Nat.lt_succ_of_le hx)
      rcases cov_bit m (m + 1) 0 0 x q with z | z
      · rw [Nat.zero_testBit] at z
        cases z
      · exact z
    obtain ⟨a, ha, ea⟩ := from0 i hi
    obtain ⟨b, hb, eb⟩ := from0 j hj
    have turn : ∀ k, lcgI m 0 (m + 1 + k) = lcgI m 0 k := fun k => by
      rw [← lcgI_tail, h4]
    by_cases c : a ≤ b
    · exact ⟨b - a, by omega, by rw [← ea, lcgI_tail, show a + (b - a) = b by omega, eb]⟩
    · exact ⟨m + 1 + b - a, by omega, by rw [← ea, lcgI_tail, show a + (m + 1 + b - a) = m + 1 + b by omega, turn, eb]⟩
theorem good7 : Good 7 := good_of 7 (by decide) (by decide +kernel) (by decide +kernel)
theorem good31 : Good 31 := good_of 31 (by decide) (by decide +kernel) (by decide +kernel)
theorem good127 : Good 127 := good_of 127 (by decide) (by decide +kernel) (by decide +kernel)
theorem good511 : Good 511 := good_of 511 (by decide) (by decide +kernel) (by decide +kernel)
theorem good2047 : Good 2047 := good_of 2047 (by decide) (by decide +kernel) (by decide +kernel)
theorem Good.runs {m : Nat} (g : Good m) (h : Int) {j : Nat} (hj : j ≤ m) : ∃ n, n ≤ m + 12 ∧ runI m (SetTable.bits h) n = j := by
  obtain ⟨k, hk, e⟩ := g.all _ j (runI_le m (SetTable.bits h) 12) hj
  refine ⟨12 + k, by omega, ?_⟩
  rw [runI_tail (bits_lt h), e]
theorem Good.meets {m : Nat} (g : Good m) (h : Int) {j : Nat} (hj : j ≤ m) : ∃ k, k < 10 * SetTable.turns m ∧ way m h k = j := by
  obtain ⟨n, hn, e⟩ := g.runs h hj
  obtain ⟨k, hk, e2⟩ := run_nth m (SetTable.bits h) n
  have h10 : 10 * SetTable.turns m = 10 * (m + 15) := rfl
  exact ⟨k, by omega, (congrArg SetTable.Probe.j e2).trans e⟩
theorem way_in {m : Nat} (h : Int) (k : Nat) : way m h k ≤ m := by
  have hi : SetTable.bits h % (m + 1) ≤ m := Nat.le_of_lt_succ (Nat.mod_lt _ (Nat.succ_pos _))
  have r := runEnd_bd hi
  have q := nth_in (m := m) k (runAt m (SetTable.bits h % (m + 1)) (SetTable.bits h)) (show SetTable.bits h % (m + 1) + (SetTable.runEnd m (SetTable.bits h % (m + 1)) - SetTable.bits h % (m + 1)) ≤ m by omega)
  exact Nat.le_trans (Nat.le_add_right _ _) q

/-! ### the table -/
structure Tab (t : SetTable) (hs : List Int) : Prop where
  asc : Ris t.place.toList
  nod : t.dummies = #[]
  long : t.place.toList.length = hs.length
  good : Good t.mask
  inside : ∀ x ∈ t.place.toList, x ≤ t.mask
  found : ∀ (i : Nat) (h : Int) (j : Nat), hs[i]? = some h → t.place.toList[i]? = some j → ∃ k, way t.mask h k = j ∧ ∀ c, c < k → way t.mask h c ∈ t.place.toList
theorem Tab.gap {t : SetTable} {hs : List Int} (T : Tab t hs) (hl : hs.length ≤ t.mask) (h : Int) : ∃ K, K < 10 * SetTable.turns t.mask ∧ way t.mask h K ∉ t.place.toList ∧ ∀ c, c < K → way t.mask h c ∈ t.place.toList := by
  obtain ⟨j, hj, hn⟩ := st_missing t.place.toList (t.mask + 1) (by have := T.long; omega)
  obtain ⟨k, hk, e⟩ := T.good.meets h (Nat.le_of_lt_succ hj)
  obtain ⟨K, h1, h2, h3⟩ := st_least (p := fun k => way t.mask h k ∉ t.place.toList) k (by rw [e]; exact hn)
  exact ⟨K, Nat.lt_of_le_of_lt h1 hk, h2, fun c hc => Classical.byContradiction fun z => h3 c hc z⟩
theorem Tab.ahead {t : SetTable} {hs : List Int} (T : Tab t hs) {h : Int} {K i j : Nat} (hK : way t.mask h K ∉ t.place.toList) (hi : hs[i]? = some h) (hj : t.place.toList[i]? = some j) : ∃ k, k < K ∧ way t.mask h k = j := by
  obtain ⟨k, e, hb⟩ := T.found i h j hi hj
  refine ⟨k, ?_, e⟩
  by_cases c : k < K
  · exact c
  · exfalso
    by_cases d : k = K
    · subst d
      rw [e] at hK
      exact hK (List.mem_of_getElem? hj)
    · exact hK (hb K (by omega))
/-- one more at its own first free slot -/
theorem Tab.put {t : SetTable} {hs : List Int} (T : Tab t hs) {h : Int} {K : Nat} (hK : way t.mask h K ∉ t.place.toList) (hb : ∀ c, c < K → way t.mask h c ∈ t.place.toList) :
    SetTable.below t.place (way t.mask h K) ≤ hs.length ∧ Tab (t.put (way t.mask h K)).1 (hs.take (SetTable.below t.place (way t.mask h K)) ++ h :: hs.drop (SetTable.below t.place (way t.mask h K))) := by
  have hjm : way t.mask h K ≤ t.mask := way_in h K
  generalize hj : way t.mask h K = j at hK hjm ⊢
  obtain ⟨c1, _, _⟩ := below_cut T.asc j
  have hpl : SetTable.below t.place j ≤ t.place.toList.length := by
    rw [Array.length_toList]
    exact c1
  have hph : SetTable.below t.place j ≤ hs.length := T.long ▸ hpl
  have hpp := put_place t j
  have up : ∀ {x : Nat}, x ∈ t.place.toList → x ∈ (t.put j).1.place.toList := fun {x} hx => by
    rw [hpp]
    exact mem_ins.2 (.inr hx)
  refine ⟨hph, ⟨ris_insert T.asc (fun e => hK (List.mem_of_getElem? (by rw [Array.getElem?_toList]; exact e))), put_dm T.nod j, ?_, T.good, fun x hx => ?_, fun i h' j' h1 h2 => ?_⟩⟩
  · rw [hpp, len_ins _ hpl, len_ins _ hph, T.long]
  · rw [hpp] at hx
    rcases mem_ins.1 hx with z | z
    · exact z ▸ hjm
    · exact T.inside x z
  · rw [tins_get hs hph] at h1
    rw [hpp, tins_get _ hpl] at h2
    show ∃ k, way t.mask h' k = j' ∧ ∀ c, c < k → way t.mask h' c ∈ (t.put j).1.place.toList
    by_cases d : i = SetTable.below t.place j
    · subst d
      rw [if_neg (Nat.lt_irrefl _), if_pos rfl] at h1 h2
      obtain rfl := Option.some.inj h1
      obtain rfl := Option.some.inj h2
      exact ⟨K, hj, fun c hc => up (hb c hc)⟩
    · have old : ∀ i', hs[i']? = some h' → t.place.toList[i']? = some j' → ∃ k, way t.mask h' k = j' ∧ ∀ c, c < k → way t.mask h' c ∈ (t.put j).1.place.toList := fun i' a b => by
        obtain ⟨k, e, z⟩ := T.found i' h' j' a b
        exact ⟨k, e, fun c hc => up (z c hc)⟩
      by_cases c : i < SetTable.below t.place j
      · rw [if_pos c] at h1 h2
        exact old i h1 h2
      · rw [if_neg c, if_neg d] at h1 h2
        exact old (i - 1) h1 h2

/-! ### all laid anew -/
theorem free_at {m : Nat} (g : Good m) (owner : Array (Option Nat)) (h : Int) {j : Nat} (hj : j ≤ m) (hf : oAt owner j = none) :
    ∃ K, SetTable.layClean.free m owner (SetTable.turns m) (SetTable.bits h % (m + 1)) (SetTable.bits h) = some (way m h K) ∧ oAt owner (way m h K) = none ∧ ∀ c, c < K → oAt owner (way m h c) ≠ none := by
  obtain ⟨n, hn, e⟩ := g.runs h hj
  have hw : way m h (off m (SetTable.bits h % (m + 1)) (SetTable.bits h) n) = j := by
    show (nth m _ _).j = j
    rw [nth_off, itL_run]
    exact e
  obtain ⟨K, k1, k2, k3⟩ := st_least (p := fun c => oAt owner (way m h c) = none) _ (hw.symm ▸ hf)
  refine ⟨K, free_spec m owner (SetTable.turns m) n _ _ K (show n < m + 15 by omega) k1 (fun c hc => ?_) (by rw [k2]; rfl), k2, k3⟩
  have q := k3 c hc
  show (oAt owner (way m h c)).isNone = false
  cases z : oAt owner (way m h c) with
  | none => exact absurd z q
  | some _ => rfl
theorem own_step {m : Nat} (g : Good m) {done : List Int} {owner : Array (Option Nat)} (W : Own m done owner) (hl : done.length ≤ m) (h : Int) :
    ∃ j, SetTable.layClean.free m owner (SetTable.turns m) (SetTable.bits h % (m + 1)) (SetTable.bits h) = some j ∧ Own m (done ++ [h]) (owner.setIfInBounds j (some done.length)) := by
  obtain ⟨ps, hps, hin⟩ := W.ps
  obtain ⟨j0, h0, hn0⟩ := st_missing ps (m + 1) (by omega)
  have hj0 : oAt owner j0 = none := Classical.byContradiction fun z => hn0 (hin j0 (Nat.le_of_lt_succ h0) z)
  obtain ⟨K, e1, e2, e3⟩ := free_at g owner h (Nat.le_of_lt_succ h0) hj0
  have hjm : way m h K ≤ m := way_in h K
  generalize hq : way m h K = q at e1 e2 hjm
  have hself := oAt_set_self (owner := owner) (j := q) (some done.length) (by rw [W.sz]; omega)
  have mono : ∀ {i : Nat}, oAt owner i ≠ none → oAt (owner.setIfInBounds q (some done.length)) i ≠ none := fun {i} hi => by
    by_cases c : i = q
    · rw [c, hself]
      intro z
      cases z
    · rw [oAt_set_ne _ c]
      exact hi
  refine ⟨q, e1, ⟨by rw [Array.size_setIfInBounds]; exact W.sz, fun j k hj e => ?_, fun k hk => ?_, ⟨q :: ps, by simp [hps], fun j hj e => ?_⟩⟩⟩
  · by_cases c : j = q
    · subst c
      rw [hself] at e
      obtain rfl := Option.some.inj e
      exact ⟨h, K, by simp, hq, fun c hc => mono (e3 c hc)⟩
    · rw [oAt_set_ne _ c] at e
      obtain ⟨h', K', a1, a2, a3⟩ := W.at_ j k hj e
      exact ⟨h', K', by rw [List.getElem?_append_left (List.getElem?_eq_some_iff.mp a1).1]; exact a1, a2, fun c hc => mono (a3 c hc)⟩
  · rw [List.length_append, List.length_singleton] at hk
    by_cases c : k = done.length
    · exact ⟨q, hjm, by rw [hself, c]⟩
    · obtain ⟨j, hj, e⟩ := W.all k (by omega)
      exact ⟨j, hj, by rw [oAt_set_ne _ (fun z => by rw [z, e2] at e; cases e)]; exact e⟩
  · by_cases c : j = q
    · rw [c]
      exact List.mem_cons_self
    · rw [oAt_set_ne _ c] at e
      exact List.mem_cons_of_mem _ (hin j hj e)
theorem fold_all {m : Nat} (g : Good m) : ∀ (rest done : List Int) (owner : Array (Option Nat)), Own m done owner → done.length + rest.length ≤ m →
    ∃ owner', rest.foldl (stepF m) (some (owner, done.length)) = some (owner', (done ++ rest).length) ∧ Own m (done ++ rest) owner'
  | [], done, owner, W, _ => ⟨owner, by simp, by simpa using W⟩
  | h :: rest, done, owner, W, hl => by
    rw [List.length_cons] at hl
    obtain ⟨j, e, W'⟩ := own_step g W (by omega) h
    obtain ⟨owner', f, W2⟩ := fold_all g rest (done ++ [h]) _ W' (by simp; omega)
    refine ⟨owner', ?_, by simpa using W2⟩
    rw [List.foldl_cons, stepF_some e]
    simpa using f
theorem lay_all {m : Nat} (g : Good m) {hs : Array Int} (hn : hs.size ≤ m) : ∃ owner, SetTable.layClean m hs = some owner ∧ Own m hs.toList owner := by
  obtain ⟨owner, f, W⟩ := fold_all g hs.toList [] _ (Own.init m) (by simpa using hn)
  refine ⟨owner, ?_, by simpa using W⟩
  have f' : hs.toList.foldl (stepF m) (some (Array.replicate (m + 1) none, 0)) = some (owner, ([] ++ hs.toList).length) := f
  rw [layClean_eq, f'] <;> rfl
theorem relaid_all (t : SetTable) {hs : Array Int} {wanted M : Nat} (hw : SetTable.sizeAbove wanted - 1 = M) (g : Good M) (hn : hs.size ≤ M) :
    ∃ t' order, t.relaid hs wanted = some (t', order) ∧ order.toList.Perm (List.range hs.size) ∧ Tab t' (order.toList.map fun i => hs.getD i 0) ∧ t'.mask = M ∧ t'.led = t.led ∧ t'.plain = t.plain := by
  obtain ⟨owner, e, W⟩ := lay_all g hn
  have hr : t.relaid hs wanted = some (tabOf t M owner, ((liveOf M owner).map (·.2)).toArray) := by
    rw [relaid_eq, hw, e] <;> rfl
  have ris := ris_live (fun j => owner.getD j none) (List.range (M + 1)) (by
    unfold Ris
    exact List.pairwise_lt_range)
  have r1 : Ris ((liveOf M owner).map (·.1)) := ris.1
  have r2 : ∀ x ∈ (liveOf M owner).map (·.1), x ∈ List.range (M + 1) := ris.2
  have nd : ((liveOf M owner).map (·.1)).Nodup := List.Pairwise.imp (fun h => Nat.ne_of_lt h) r1
  have inL : ∀ {j k : Nat}, j ≤ M → oAt owner j = some k → (j, k) ∈ liveOf M owner := fun a b => (mem_live W.sz).2 ⟨a, b⟩
  have every : ∀ k, k < hs.size → k ∈ (liveOf M owner).map (·.2) := fun k hk => by
    obtain ⟨j, b1, b2⟩ := W.all k (by simpa using hk)
    exact List.mem_map.mpr ⟨(j, k), inL b1 b2, rfl⟩
  have hlen : (liveOf M owner).length = hs.size := by
    obtain ⟨ps, p1, p2⟩ := W.ps
    have a := nat_nodup_len ((liveOf M owner).map (·.1)) ps nd fun x hx => by
      obtain ⟨⟨y, k⟩, hq, rfl⟩ := List.mem_map.mp hx
      obtain ⟨b1, b2⟩ := (mem_live W.sz).1 hq
      exact p2 y b1 (by rw [b2]; intro z; cases z)
    have b := nat_nodup_len (List.range hs.size) ((liveOf M owner).map (·.2)) List.nodup_range fun k hk => every k (List.mem_range.mp hk)
    rw [List.length_map, p1] at a
    rw [List.length_map, List.length_range] at b
    have hz : hs.toList.length = hs.size := rfl
    omega
  refine ⟨tabOf t M owner, ((liveOf M owner).map (·.2)).toArray, hr, perm_range hs.size _ (by simpa using hlen) (by simpa using every), ⟨r1, rfl, ?_, g, fun x hx => Nat.le_of_lt_succ (List.mem_range.mp (r2 x hx)), fun i h j h1 h2 => ?_⟩, rfl, rfl, rfl⟩
  · show ((liveOf M owner).map (·.1)).length = (((liveOf M owner).map (·.2)).map fun i => hs.getD i 0).length
    simp
  · have h1' : (((liveOf M owner).map (·.2)).map fun i => hs.getD i 0)[i]? = some h := h1
    have h2' : ((liveOf M owner).map (·.1))[i]? = some j := h2
    rw [List.getElem?_map, List.getElem?_map] at h1'
    rw [List.getElem?_map] at h2'
    cases hq : (liveOf M owner)[i]? with
    | none =>
      rw [hq] at h2'
      cases h2'
    | some q =>
      obtain ⟨y, k⟩ := q
      rw [hq] at h1' h2'
      obtain rfl : y = j := Option.some.inj h2'
      obtain rfl : hs.getD k 0 = h := Option.some.inj h1'
      obtain ⟨b1, b2⟩ := (mem_live W.sz).1 (List.mem_of_getElem? hq)
      obtain ⟨h0, K, a1, a2, a3⟩ := W.at_ y k b1 b2
      have e0 : hs.getD k 0 = h0 := by
        rw [Array.getD_eq_getD_getElem?, ← Array.getElem?_toList, a1] <;> rfl
      rw [e0]
      refine ⟨K, a2, fun c hc => ?_⟩
      show way M h0 c ∈ (liveOf M owner).map (·.1)
      cases z : oAt owner (way M h0 c) with
      | none => exact absurd z (a3 c hc)
      | some k2 => exact List.mem_map.mpr ⟨(way M h0 c, k2), inL (way_in h0 c) z, rfl⟩
theorem size20 : SetTable.sizeAbove (SetTable.grown 5) = 32 := by decide +kernel
theorem size76 : SetTable.sizeAbove (SetTable.grown 19) = 128 := by decide +kernel
theorem size308 : SetTable.sizeAbove (SetTable.grown 77) = 512 := by decide +kernel
theorem size1228 : SetTable.sizeAbove (SetTable.grown 307) = 2048 := by decide +kernel
end DR

set_option Elab.async false
set_option linter.all false
set_option maxRecDepth 100000
set_option maxHeartbeats 4000000
namespace DR
open PySem PySem.Spec PyProof.Rows L2
/-- the n-th place of the way of h -/
abbrev stp (m : Nat) (h : Int) (c : Nat) : SetTable.Probe := nth m (runAt m (SetTable.bits h % (m + 1)) (SetTable.bits h)) c
theorem stp_add (m : Nat) (h : Int) (c q : Nat) : nth m (stp m h c) q = stp m h (c + q) := (nth_add m c _ q).symm
theorem nth_clean (m : Nat) : ∀ (n : Nat) (p : SetTable.Probe), p.dummy = none → (nth m p n).dummy = none
  | 0, _, h => h
  | n + 1, p, h => nth_clean m n _ (by unfold adv; split <;> exact h)
/-- a look from the c-th place on: a row of that hash ahead of the gap, or the gap -/
theorem look_from {t : SetTable} {hs : List Int} (T : Tab t hs) {h : Int} {K : Nat} (hKf : K < 10 * SetTable.turns t.mask) (hK : way t.mask h K ∉ t.place.toList) (hb : ∀ c, c < K → way t.mask h c ∈ t.place.toList)
    (hashAt : Nat → Int) {c : Nat} (hc : c ≤ K) :
    (∃ q i, c ≤ q ∧ q < K ∧ t.place.toList[i]? = some (way t.mask h q) ∧ hashAt i = h ∧ (∀ q' i', c ≤ q' → q' < q → t.place.toList[i']? = some (way t.mask h q') → hashAt i' ≠ h) ∧
      t.probe hashAt h (stp t.mask h c) = some (.candidate (way t.mask h q) i (stp t.mask h (q + 1)))) ∨
    ((∀ q' i', c ≤ q' → q' < K → t.place.toList[i']? = some (way t.mask h q') → hashAt i' ≠ h) ∧ t.probe hashAt h (stp t.mask h c) = some (.empty (way t.mask h K) none)) := by
  have sh : ∀ q, nth t.mask (stp t.mask h c) q = stp t.mask h (c + q) := stp_add t.mask h c
  have e1 : ∀ q, (nth t.mask (stp t.mask h c) q).j = way t.mask h (c + q) := fun q => congrArg SetTable.Probe.j (sh q)
  have eK : c + (K - c) = K := by omega
  have spec := go_spec t T.asc T.nod hashAt h (10 * SetTable.turns t.mask) (K - c) _ (nth_clean t.mask c _ rfl) (by omega)
    (fun q hq => by rw [sh]; exact hb (c + q) (by omega)) (by rw [sh, eK]; exact hK)
  rcases spec with ⟨q, i, hq, hi, hh, hno, hpr⟩ | ⟨hno, hpr⟩
  · refine .inl ⟨c + q, i, by omega, by omega, by rw [← e1]; exact hi, hh, fun q' i' h1 h2 hi' => ?_, ?_⟩
    · refine hno (q' - c) i' (by omega) ?_
      rw [e1, show c + (q' - c) = q' by omega]
      exact hi'
    · show SetTable.probe.go t hashAt h (10 * SetTable.turns t.mask) (stp t.mask h c) = _
      rw [show c + q + 1 = c + (q + 1) by omega, ← sh, ← e1]
      exact hpr
  · refine .inr ⟨fun q' i' h1 h2 hi' => ?_, ?_⟩
    · refine hno (q' - c) i' (by omega) ?_
      rw [e1, show c + (q' - c) = q' by omega]
      exact hi'
    · show SetTable.probe.go t hashAt h (10 * SetTable.turns t.mask) (stp t.mask h c) = _
      have e3 := e1 (K - c)
      rw [eK] at e3
      rw [← e3]
      exact hpr

section
variable {P : Program} {w : World} {A : Around} {E : Value → Shared → Prop} {s : Shared}
/-- the set at a holds the tuples L (where, what) -/
structure SetG (P : Program) (w : World) (h : Heap) (a : Addr) (L : List (Addr × List Int)) (es : Array (Int × Value)) (ep : Nat) (t : SetTable) : Prop where
  ob : ∃ o, h.get? a = some o ∧ o.ExactSet ∧ o.data = .set es ep t
  rows : es.toList = rowsOf P w L
  tab : Tab t (L.map fun p => thash P w p.2)
  nd : (L.map (·.2)).Nodup
  tup : ∀ p ∈ L, IsT P w h p.2 p.1
  plain : t.plain = true
  led : w.params.followText "set-order" = true ∨ t.led = true
  room : L.length * 5 < t.mask * 3
variable {a : Addr} {L : List (Addr × List Int)} {es : Array (Int × Value)} {ep : Nat} {t : SetTable}
theorem SetG.len (R : SetG P w s.heap a L es ep t) : es.size = L.length := by
  have h := congrArg List.length R.rows
  simpa [rowsOf] using h
theorem SetG.plen (R : SetG P w s.heap a L es ep t) : t.place.size = L.length := by
  have h := R.tab.long
  rw [List.length_map, Array.length_toList] at h
  exact h
theorem SetG.fit (R : SetG P w s.heap a L es ep t) : t.fits es.size = true := by
  have h2 := R.len
  have h3 := R.room
  have h4 := R.plen
  unfold SetTable.fits SetTable.fill
  rw [R.tab.nod, h2, h4]
  simp
  omega
theorem SetG.row (R : SetG P w s.heap a L es ep t) {i : Nat} {p : Addr × List Int} (h : L[i]? = some p) : es[i]? = some (thash P w p.2, Value.ref p.1) := by
  rw [← Array.getElem?_toList, R.rows]
  simp [rowsOf, h]
theorem SetG.stands (R : SetG P w s.heap a L es ep t) : ¬ t.gaveWay = true := by
  unfold SetTable.gaveWay
  rw [R.tab.good.odd]
  decide
/-- the search, adding or not -/
theorem seek_from (R : SetG P w s.heap a L es ep t) {x : Addr} {k : List Int} (hx : IsT P w s.heap k x) (hu : A.units < cLine) {K : Nat} (hKf : K < 10 * SetTable.turns t.mask)
    (hK : way t.mask (thash P w k) K ∉ t.place.toList) (hKb : ∀ c, c < K → way t.mask (thash P w k) c ∈ t.place.toList) {adding : Bool} {Q : SetFound → Shared → Prop}
    (hin : k ∈ L.map (·.2) → ∀ r : Option Nat, (adding = false → r.isSome = true) → Q (.there r) s) (hout : k ∉ L.map (·.2) → Q (.free (way t.mask (thash P w k) K) false) s) :
    ∀ (f c : Nat) (stand : Option SetTable.Probe), stand.getD (t.probeStart (thash P w k)) = stp t.mask (thash P w k) c → c ≤ K → K - c < f →
      (∀ (i : Nat) p, L[i]? = some p → p.2 = k → ∃ c', c ≤ c' ∧ c' < K ∧ t.place.toList[i]? = some (way t.mask (thash P w k) c')) →
      wpAny (model P w) A (setSearchFrom a (.ref x) (thash P w k) adding f stand) Q E s
  | 0, c, stand, _, _, hf, _ => absurd hf (Nat.not_lt_zero _)
  | f + 1, c, stand, hst, hc, hf, hre => by
    obtain ⟨o, ho, hex, hd⟩ := R.ob
    rw [setSearchFrom_succ]
    refine wpAny_bind (wpAny_setState_of ho hd R.fit ?_)
    dsimp only
    refine wp_if_neg R.stands ?_
    have hashAt : ∀ (i : Nat) p, L[i]? = some p → (es[i]?.map (·.1)).getD 0 = thash P w p.2 := fun i p hp => by
      rw [R.row hp] <;> rfl
    rcases look_from R.tab hKf hK hKb (fun i => (es[i]?.map (·.1)).getD 0) hc with ⟨q, i, q1, q2, hi, hh, hno, hpr⟩ | ⟨hno, hpr⟩
    · rw [hst, hpr]
      dsimp only
      have hil : i < L.length := by
        have h1 : i < t.place.toList.length := (List.getElem?_eq_some_iff.mp hi).1
        have h2 := R.plen
        rw [Array.length_toList] at h1
        omega
      obtain ⟨p, hp⟩ : ∃ p, L[i]? = some p := ⟨_, List.getElem?_eq_getElem hil⟩
      have hmem : p ∈ L := List.mem_of_getElem? hp
      have more : wpAny (model P w) A (searchRest a (.ref x) (thash P w k) adding f es t (way t.mask (thash P w k) q) i (stp t.mask (thash P w k) (q + 1))) Q E s := by
        unfold searchRest
        rw [R.row hp]
        dsimp only
        refine wpAny_bind (wpAny_holding (wpAny_eqBool_tuple hu (R.tup p hmem) hx ?_))
        refine wpAny_bind (wpAny_setState_of ho hd R.fit ?_)
        dsimp only
        have hsl : t.slot (way t.mask (thash P w k) q) = .live i := slot_live R.tab.asc hi
        by_cases hkk : p.2 = k
        · have isin : k ∈ L.map (·.2) := List.mem_map.mpr ⟨p, hmem, hkk⟩
          cases adding with
          | true =>
            refine wp_if_pos (by simp [hkk]) ?_
            exact wpAny_pure (hin isin none (fun z => nomatch z))
          | false =>
            refine wp_if_neg (by simp) ?_
            rw [sameMem]
            dsimp only
            simp only [if_true, hsl, R.row hp]
            refine wpAny_bind (wpAny_isSame_ref_self (wpAny_bind (wpAny_pure ?_)))
            simp only [if_true]
            refine wp_if_pos (by simp [hkk]) ?_
            exact wpAny_pure (hin isin (some i) fun _ => rfl)
        · refine wp_if_neg (by simp [hkk]) ?_
          rw [sameMem]
          dsimp only
          simp only [if_true, hsl, R.row hp]
          refine wpAny_bind (wpAny_isSame_ref_self (wpAny_bind (wpAny_pure ?_)))
          simp only [if_true]
          refine wp_if_neg (by simp [hkk]) ?_
          refine seek_from R hx hu hKf hK hKb hin hout f (q + 1) _ rfl (by omega) (by omega) fun i0 p0 h0 hk0 => ?_
          obtain ⟨c', a1, a2, a3⟩ := hre i0 p0 h0 hk0
          refine ⟨c', ?_, a2, a3⟩
          by_cases z : c' < q
          · exfalso
            refine hno c' i0 a1 z a3 ?_
            rw [hashAt i0 p0 h0, hk0]
          · by_cases y : c' = q
            · exfalso
              rw [y] at a3
              have s0 := slot_live R.tab.asc a3
              rw [hsl] at s0
              injection s0 with s0
              rw [← s0, hp] at h0
              exact hkk ((congrArg Prod.snd (Option.some.inj h0)).trans hk0)
            · omega
      by_cases hl : t.led = true
      · refine wp_if_neg (by simp [hl]) ?_
        exact more
      · refine wp_if_pos (by simp [hl]) ?_
        refine wpAny_bind (seen_tup hx (fun y hy => ?_) ?_)
        · obtain ⟨e, he, ee⟩ := List.mem_map.mp hy
          have he2 : e ∈ es.toList := by
            have he1 : e ∈ es ∧ e.1 = thash P w k := by simpa using he
            simpa using he1.1
          rw [R.rows] at he2
          obtain ⟨p2, hp2, e2⟩ := List.mem_map.mp he2
          exact ⟨p2.2, p2.1, by rw [← ee, ← e2], R.tup p2 hp2⟩
        · refine wp_if_neg (by decide) ?_
          exact more
    · rw [hst, hpr]
      dsimp only
      refine wpAny_pure (hout fun hm => ?_)
      obtain ⟨p0, h0, hk0⟩ := List.mem_map.mp hm
      obtain ⟨i0, h00⟩ := List.getElem?_of_mem h0
      obtain ⟨c', a1, a2, a3⟩ := hre i0 p0 h00 hk0
      refine hno c' i0 a1 a2 a3 ?_
      rw [hashAt i0 p0 h00, hk0]
theorem seek (R : SetG P w s.heap a L es ep t) {x : Addr} {k : List Int} (hx : IsT P w s.heap k x) (hu : A.units < cLine) {adding : Bool} {Q : SetFound → Shared → Prop}
    (hin : k ∈ L.map (·.2) → ∀ r : Option Nat, (adding = false → r.isSome = true) → Q (.there r) s)
    (hout : ∀ K, k ∉ L.map (·.2) → way t.mask (thash P w k) K ∉ t.place.toList → (∀ c, c < K → way t.mask (thash P w k) c ∈ t.place.toList) → Q (.free (way t.mask (thash P w k) K) false) s) :
    wpAny (model P w) A (setSearch a (.ref x) (thash P w k) adding) Q E s := by
  have hroom := R.room
  have hpl := R.plen
  obtain ⟨K, hKf, hK, hKb⟩ := R.tab.gap (by rw [List.length_map]; omega) (thash P w k)
  have hbig : K < 100000 := by
    have h1 : 10 * SetTable.turns t.mask = 10 * (t.mask + 15) := rfl
    have h2 := R.tab.good.big
    omega
  unfold setSearch
  refine seek_from R hx hu hKf hK hKb hin (fun hn => hout K hn hK hKb) 100000 0 none rfl (Nat.zero_le _) (by omega) fun i p hp hk => ?_
  have hi : (L.map fun p => thash P w p.2)[i]? = some (thash P w k) := by simp [hp, hk]
  have hil : i < t.place.toList.length := by
    have h1 : i < L.length := (List.getElem?_eq_some_iff.mp hp).1
    rw [Array.length_toList]
    omega
  have hj := List.getElem?_eq_getElem hil
  obtain ⟨c, hc, e⟩ := R.tab.ahead hK hi hj
  exact ⟨c, Nat.zero_le _, hc, by rw [hj, e]⟩
/-- x in the set -/
theorem contains_at (R : SetG P w s.heap a L es ep t) {x : Addr} {k : List Int} (hx : IsT P w s.heap k x) (hu : A.units < cLine) {Q : Bool → Shared → Prop}
    (hQ : Q (decide (k ∈ L.map (·.2))) { s with toks := s.toks + (k.length + 1) }) : wpAny (model P w) A (setContains a (.ref x)) Q E s := by
  unfold setContains
  refine wpAny_holding ?_
  refine wpAny_bind (wpAny_pyHash_tuple hu hx ?_)
  obtain ⟨o, ho, hex, hd⟩ := R.ob
  have R' : SetG P w ({ s with toks := s.toks + (k.length + 1) } : Shared).heap a L es ep t := R
  refine wpAny_bind ?_
  unfold setFind
  rw [show (100000 : Nat) = 99999 + 1 from rfl]
  unfold setFindIn
  refine wpAny_bind (wpAny_setState_of (s := { s with toks := s.toks + (k.length + 1) }) ho hd R.fit ?_)
  dsimp only
  refine wp_if_neg (by simp [byScan, Value.scannable]) ?_
  refine wpAny_bind (seek R' hx hu (fun hm r hr => ?_) fun K hm _ _ => ?_)
  · dsimp only
    refine wpAny_pure (wpAny_pure ?_)
    rw [hr rfl]
    rw [decide_eq_true hm] at hQ
    exact hQ
  · dsimp only
    refine wpAny_pure (wpAny_pure ?_)
    rw [decide_eq_false hm] at hQ
    exact hQ
end
end DR

set_option Elab.async false
set_option linter.all false
set_option maxRecDepth 100000
set_option maxHeartbeats 4000000
namespace DR
open PySem PySem.Spec PyProof.Rows L2
section
variable {P : Program} {w : World} {A : Around} {E : Value → Shared → Prop} {s : Shared}
variable {a : Addr} {L : List (Addr × List Int)} {es : Array (Int × Value)} {ep : Nat} {t : SetTable}
/-- the table laid anew, larger -/
theorem relay_all {o : Obj} (ho : s.heap.get? a = some o) (hex : o.ExactSet) (hd : o.data = .set es ep t) (hrows : es.toList = rowsOf P w L) (hT : Tab t (L.map fun p => thash P w p.2)) (hfl : L.length ≤ t.mask)
    (nd : (L.map (·.2)).Nodup) (tup : ∀ p ∈ L, IsT P w s.heap p.2 p.1) (pl : t.plain = true) (ld : w.params.followText "set-order" = true ∨ t.led = true) {wanted M : Nat}
    (hw : SetTable.sizeAbove wanted - 1 = M) (g : Good M) (hw2 : SetTable.sizeAbove wanted ≤ 2048) (hn : L.length * 5 < M * 3) {Q : Unit → Shared → Prop}
    (hQ : ∀ h' L' es' ep' t', Heap.SameBut a s.heap h' → SetG P w h' a L' es' ep' t' → L'.Perm L → Q () { s with heap := h' }) : wpAny (model P w) A (setRelay a wanted) Q E s := by
  have hsl : es.size = L.length := by simpa [rowsOf] using congrArg List.length hrows
  have hpl : t.place.size = L.length := by
    have h := hT.long
    rw [List.length_map, Array.length_toList] at h
    exact h
  have hfits : t.fits es.size = true := by
    unfold SetTable.fits SetTable.fill
    rw [hT.nod, hsl, hpl]
    simp
    omega
  have hg := g.big
  obtain ⟨t', order, e, hp, T, em, el, epl⟩ := relaid_all t (hs := es.map (·.1)) hw g (by rw [Array.size_map, hsl]; omega)
  rw [Array.size_map, hsl] at hp
  obtain ⟨L2, r1, r2, r3⟩ := order_rows L es order hrows hp
  rw [← r3] at T
  have hs2 : (order.filterMap (es[·]?)).size = L.length := by
    have h := congrArg List.length r1
    rw [Array.length_toList] at h
    rw [h]
    simp [rowsOf, r2.length_eq]
  rw [setRelay_eq]
  refine wpAny_bind (wpAny_setState_of ho hd hfits ?_)
  dsimp only
  refine wp_if_neg (by rw [sizeLine_eq]; omega) ?_
  rw [e]
  dsimp only
  refine wpAny_bind ?_
  refine wp_if_neg (by rw [hs2, hsl]; simp) ?_
  refine wpAny_pure ?_
  dsimp only
  refine wpAny_storeSet_of ho hd ?_ (by rw [hs2, sizeLine_eq]; omega)
  have sb := Heap.SameBut.update s.heap a (Obj.putSet (order.filterMap (es[·]?)) t')
  refine hQ _ L2 (order.filterMap (es[·]?)) (ep + 1) t' sb ⟨⟨_, store_at ho hd, ⟨hex.1, hex.2.1, hex.2.2⟩, rfl⟩, r1, T, (r2.map (·.2)).nodup_iff.mpr nd, fun p hpm => isT_same (tup p (r2.mem_iff.mp hpm)) ho hd sb, by rw [epl]; exact pl, by rw [el]; exact ld, ?_⟩ r2
  rw [r2.length_eq, em]
  exact hn
/-- one more, or the same -/
theorem add_all (R : SetG P w s.heap a L es ep t) {x : Addr} {k : List Int} (hx : IsT P w s.heap k x) (hu : A.units < cLine) (hfew : L.length < 1000) {Q : Bool → Shared → Prop}
    (hQ : ∀ b h' L' es' ep' t', Heap.SameBut a s.heap h' → SetG P w h' a L' es' ep' t' → (k ∈ L.map (·.2) → L' = L) → (k ∉ L.map (·.2) → L'.Perm ((x, k) :: L)) → Q b { s with heap := h' }) :
    wpAny (model P w) A (setAddHashed a (.ref x) (thash P w k)) Q E s := by
  obtain ⟨o, ho, hex, hd⟩ := R.ob
  have hsl := R.len
  have hroom := R.room
  have hbig := R.tab.good.big
  unfold setAddHashed
  refine wpAny_holding ?_
  rw [show (100000 : Nat) = 99999 + 1 from rfl, setAddHashedIn_succ]
  refine wpAny_bind (wpAny_setState_of ho hd R.fit ?_)
  dsimp only
  refine wp_if_neg (by simp [byScan, Value.scannable]) ?_
  refine wpAny_bind (seek R hx hu (fun hm r _ => ?_) fun K hm hK hb => ?_)
  · dsimp only
    exact wpAny_pure (hQ false s.heap L es ep t (Heap.SameBut.refl a s.heap) R (fun _ => rfl) fun z => absurd hm z)
  · dsimp only
    refine wpAny_bind (wpAny_setState_of ho hd R.fit ?_)
    dsimp only
    obtain ⟨q1, q2⟩ := R.tab.put hK hb
    have q9 : (t.put (way t.mask (thash P w k) K)).1.fill = L.length + 1 := by
      have h := q2.long
      rw [Array.length_toList, len_ins _ q1, List.length_map] at h
      unfold SetTable.fill
      rw [h, q2.nod] <;> rfl
    have hp1 : (t.put (way t.mask (thash P w k) K)).1.plain = true := R.plain
    have hl1 : w.params.followText "set-order" = true ∨ (t.put (way t.mask (thash P w k) K)).1.led = true := R.led
    have hm1 : (t.put (way t.mask (thash P w k) K)).1.mask = t.mask := rfl
    have hq1 : (t.put (way t.mask (thash P w k) K)).2 = SetTable.below t.place (way t.mask (thash P w k) K) := rfl
    generalize t.put (way t.mask (thash P w k) K) = pt at q2 q9 hp1 hl1 hm1 hq1 ⊢
    obtain ⟨t1, p⟩ := pt
    dsimp only at q2 q9 hp1 hl1 hm1 hq1 ⊢
    subst hq1
    first
      | (refine wpAny_bind ?_; refine wp_if_pos hp1 ?_; refine hashBy_tup hx ?_)
      | refine wp_if_pos hp1 (wpAny_bind (hashBy_tup hx ?_))
    simp only [if_true]
    generalize SetTable.below t.place (way t.mask (thash P w k) K) = p at q1 q2 ⊢
    have pm := put_perm L p (x, k)
    have hin : (SetTable.insertAt es p (thash P w k, Value.ref x)).toList = rowsOf P w (L.take p ++ (x, k) :: L.drop p) := by
      rw [SetTable.toList_insertAt, rows_put, R.rows]
    rw [← List.map_take, ← List.map_drop, ← List.map_cons (f := fun p : Addr × List Int => thash P w p.2) (a := (x, k)), ← List.map_append] at q2
    generalize SetTable.insertAt es p (thash P w k, Value.ref x) = es1 at hin ⊢
    generalize L.take p ++ (x, k) :: L.drop p = L1 at pm q2 hin
    have hlen : L1.length = L.length + 1 := pm.length_eq
    have nd1 : (L1.map (·.2)).Nodup := by
      refine (pm.map (·.2)).nodup_iff.mpr ?_
      rw [List.map_cons]
      exact List.nodup_cons.mpr ⟨hm, R.nd⟩
    have hes : es1.size = L.length + 1 := by
      have h := congrArg List.length hin
      simpa [rowsOf, hlen] using h
    refine wpAny_bind (wpAny_storeSet_of ho hd ?_ (by rw [hes, sizeLine_eq]; omega))
    have sb := Heap.SameBut.update s.heap a (Obj.putSet es1 t1)
    have ho1 := store_at (es' := es1) (t' := t1) ho hd
    generalize s.heap.update a (Obj.putSet es1 t1) = h1 at sb ho1 ⊢
    have tup1 : ∀ p ∈ L1, IsT P w h1 p.2 p.1 := fun p hp => by
      rcases List.mem_cons.mp (pm.mem_iff.mp hp) with e | hp
      · subst e
        exact isT_same hx ho hd sb
      · exact isT_same (R.tup p hp) ho hd sb
    by_cases hf : t1.tooFull = true
    · first
        | (refine wpAny_bind ?_; refine wp_if_pos (by simp [hf]) ?_)
        | (refine wp_if_pos (by simp [hf]) ?_; refine wpAny_bind ?_)
      have hfull : (L.length + 1) * 5 ≥ t.mask * 3 := by
        have h := hf
        unfold SetTable.tooFull at h
        rw [decide_eq_true_eq, q9, hm1] at h
        exact h
      rw [hsl]
      have go : ∀ M, SetTable.sizeAbove (SetTable.grown (L.length + 1)) - 1 = M → Good M → SetTable.sizeAbove (SetTable.grown (L.length + 1)) ≤ 2048 → (L.length + 1) * 5 < M * 3 → L.length + 1 ≤ t.mask →
          wpAny (model P w) A (setRelay a (SetTable.grown (L.length + 1))) (fun _ s' => wpAny (model P w) A (pure true) Q E s') E { s with heap := h1 } := fun M g1 g2 g3 g4 g5 => by
        refine relay_all (s := { s with heap := h1 }) ho1 ⟨hex.1, hex.2.1, hex.2.2⟩ rfl hin q2 (by rw [hlen, hm1]; exact g5) nd1 tup1 hp1 hl1 g1 g2 g3 (by rw [hlen]; exact g4) ?_
        intro h2 L2 es2 ep2 t2 sb2 R2 pm2
        exact wpAny_pure (hQ true h2 L2 es2 ep2 t2 (sb.trans sb2) R2 (fun z => absurd z hm) fun _ => pm2.trans pm)
      have hc : t.mask = 7 ∨ t.mask = 31 ∨ t.mask = 127 ∨ t.mask = 511 ∨ t.mask = 2047 := R.tab.good.five
      rcases hc with c | c | c | c | c
      · have e2 : L.length = 4 := by omega
        exact go 31 (by rw [e2, size20]) good31 (by rw [e2, size20]; decide) (by omega) (by omega)
      · have e2 : L.length = 18 := by omega
        exact go 127 (by rw [e2, size76]) good127 (by rw [e2, size76]; decide) (by omega) (by omega)
      · have e2 : L.length = 76 := by omega
        exact go 511 (by rw [e2, size308]) good511 (by rw [e2, size308]; decide) (by omega) (by omega)
      · have e2 : L.length = 306 := by omega
        exact go 2047 (by rw [e2, size1228]) good2047 (by rw [e2, size1228]; decide) (by omega) (by omega)
      · omega
    · first
        | refine wp_if_neg (by simp [hf]) ?_
        | (refine wpAny_bind ?_; refine wp_if_neg (by simp [hf]) ?_; refine wpAny_pure ?_)
      refine wpAny_pure (hQ true h1 L1 es1 (ep + 1) t1 sb ⟨⟨_, ho1, ⟨hex.1, hex.2.1, hex.2.2⟩, rfl⟩, hin, q2, nd1, tup1, hp1, hl1, ?_⟩ (fun z => absurd z hm) fun _ => pm)
      have h := hf
      unfold SetTable.tooFull at h
      rw [decide_eq_true_eq, q9] at h
      rw [hlen]
      omega
end
end DR

set_option Elab.async false
set_option linter.all false
set_option maxRecDepth 100000
set_option maxHeartbeats 4000000
namespace DR
open PySem PySem.Spec PyProof.Rows L2
/-- a set of tuples of ints, by its own object alone -/
structure SetG0 (P : Program) (w : World) (h : Heap) (a : Addr) (L : List (Addr × List Int)) : Prop where
  ex : ∃ es ep t, (∃ o, h.get? a = some o ∧ o.ExactSet ∧ o.data = .set es ep t) ∧ es.toList = rowsOf P w L ∧ Tab t (L.map fun p => thash P w p.2) ∧ (L.map (·.2)).Nodup ∧ t.plain = true ∧
    (w.params.followText "set-order" = true ∨ t.led = true) ∧ L.length * 5 < t.mask * 3
def SetGO (P : Program) (w : World) (a : Addr) (L : List (Addr × List Int)) : HO := .ext fun h => SetG0 P w h a L
section
variable {P : Program} {w : World} {H : Hp} {h : Heap} {a : Addr} {L : List (Addr × List Int)} {es : Array (Int × Value)} {ep : Nat} {t : SetTable}
theorem SetG.bare (R : SetG P w h a L es ep t) : SetG0 P w h a L := ⟨es, ep, t, R.ob, R.rows, R.tab, R.nd, R.plain, R.led, R.room⟩
theorem SetG0.full (R : SetG0 P w h a L) (ht : ∀ p ∈ L, IsT P w h p.2 p.1) : ∃ es ep t, SetG P w h a L es ep t := by
  obtain ⟨es, ep, t, h1, h2, h3, h4, h5, h6, h7⟩ := R.ex
  exact ⟨es, ep, t, h1, h2, h3, h4, ht, h5, h6, h7⟩
theorem setGO_ok (R : SetG0 P w h a L) : ObjOk P w H h a (SetGO P w a L) := by
  have ⟨es, ep, t, ⟨o, ho, r⟩, q⟩ := R.ex
  refine ⟨R, ⟨o, ho⟩, fun h1 h2 p k => ?_⟩
  have ⟨es', ep', t', ⟨o', ho', r'⟩, q'⟩ := SetG0.ex p
  exact ⟨es', ep', t', ⟨o', k o' ho', r'⟩, q'⟩
theorem setG_fresh (ho : h.get? a = some { cls := .type "set", dict := none, data := .set #[] 0 (.fresh 0 0 (!w.params.followText "set-order")) }) : SetG0 P w h a [] := by
  refine ⟨#[], 0, _, ⟨_, ho, ⟨rfl, rfl, rfl⟩, rfl⟩, rfl, ⟨List.Pairwise.nil, rfl, rfl, good7, fun x hx => (by cases hx), fun i h j hi => (by simp at hi)⟩, List.nodup_nil, rfl, ?_, (by show 0 * 5 < 7 * 3; decide)⟩
  show _ ∨ (!w.params.followText "set-order") = true
  cases w.params.followText "set-order"
  · exact .inr rfl
  · exact .inl rfl
end
section
variable {X : Cx}
theorem setG_at {pins : List (Addr × Obj)} {σ : L2.St} {H : Hp} {s : Shared} {a : Addr} {L : List (Addr × List Int)} (I : Inv X pins σ H s) (ha : H a = some (SetGO X.prog X.w a L)) (hk : ∀ p ∈ L, SqT X.K H p.1 (p.2.map V.int)) :
    ∃ es ep t, SetG X.prog X.w s.heap a L es ep t := by
  have R0 : SetG0 X.prog X.w s.heap a L := (I.hok a _ ha).1
  exact R0.full fun p hp => I.isT (hk p hp)
/-- set() -/
def rSetNew (P : Program) (w : World) : List V → Hp → VK → Prop := fun xs H Q => xs = [] ∧ ∀ p, H p = none → Q (.ref p) (upd H p (SetGO P w p []))
theorem cr_setNew : CallR X (.type "set") (rSetNew X.prog X.w) := by
  intro pins s σ H xs us Q I r h
  obtain ⟨rfl, q⟩ := h
  cases r
  refine setR_new fun _ => ?_
  exact ⟨.ref _, upd H s.heap.objs.size (SetGO X.prog X.w s.heap.objs.size []), I.laid (t' := s.toks) (fun b u e => Heap.get?_push_of_some _ e) (Nat.le_refl _) (setGO_ok (setG_fresh (Heap.get?_push_size _ rfl))), rfl, q _ (I.hok.fresh (Nat.le_refl _))⟩
/-- found.add(k) -/
def tGAdd (K : PySem.W.Frag) (P : Program) (w : World) (to : TE) (t : TA) : TE := fun σ H Q => to σ H fun x H1 => ∃ (a : Addr) (L : List (Addr × List Int)), x = V.ref a ∧ H1 a = some (SetGO P w a L) ∧ t σ H1 fun xs H2 =>
  ∃ (b : Addr) (k : List Int), xs = [V.ref b] ∧ H2 a = some (SetGO P w a L) ∧ (∀ p ∈ L, SqT K H2 p.1 (p.2.map V.int)) ∧ SqT K H2 b (k.map V.int) ∧ L.length < 1000 ∧
    ∀ L', (k ∈ L.map (·.2) → L' = L) → (k ∉ L.map (·.2) → L'.Perm ((b, k) :: L)) → Q .non (upd H2 a (SetGO P w a L'))
variable {o e : Expr} {to : TE} {t : TA} {apos cpos : Pos}
theorem set_add_G {A : Around} {E : Value → Shared → Prop} {pins : List (Addr × Obj)} {σ : L2.St} {H : Hp} {s : Shared} {a b : Addr} {L : List (Addr × List Int)} {k : List Int} {Q : Value → Shared → Prop} (hu : A.units + 1 < cLine) (I : Inv X pins σ H s)
    (ha : H a = some (SetGO X.prog X.w a L)) (hk : ∀ p ∈ L, SqT X.K H p.1 (p.2.map V.int)) (hb : SqT X.K H b (k.map V.int)) (few : L.length < 1000)
    (h : ∀ L' s', (k ∈ L.map (·.2) → L' = L) → (k ∉ L.map (·.2) → L'.Perm ((b, k) :: L)) → Inv X pins σ (upd H a (SetGO X.prog X.w a L')) s' → Q .none s') : wpAny (model X.prog X.w) A (call (.builtin "set.add") [.ref a, .ref b]) Q E s := by
  obtain ⟨es, ep, tt, R⟩ := setG_at I ha hk
  have hx : IsT X.prog X.w s.heap k b := I.isT hb
  obtain ⟨os, hos, hex, hds⟩ := id R.ob
  have hT : s.TypeIs (.ref a) "set" := ⟨os, hos, hex.1⟩
  refine wpAny_call_entry F.slot_set_add hT F.entry_set_add ?_ (F.args_set_add_2 _ _)
  unfold Builtin.«set.add» Builtin.Frozenset.oneOther
  simp only [List.isEmpty_nil, bind_assoc]
  unfold Builtin.Frozenset.addrOf setAdd
  refine wpAny_bind (wpAny_pure ?_)
  try dsimp only
  refine wpAny_bind (wpAny_pure ?_)
  try dsimp only
  refine wpAny_bind ?_
  refine wpAny_holding ?_
  refine wpAny_bind (wpAny_pyHash_tuple (by show A.units + 1 < cLine; exact hu) hx ?_)
  refine add_all (s := { s with toks := s.toks + (k.length + 1) }) R hx (by show A.units + 1 < cLine; exact hu) few fun b' h' L' es' ep' t' hsb R' c1 c2 => ?_
  show wpAny _ _ (ret Value.none) _ _ _
  refine wpAny_pure ⟨_, rfl, h L' _ c1 c2 (I.write (e := a) (t' := s.toks + (k.length + 1)) (by rw [ha]; trivial) (.inl rfl) (fun c u hc hu' => (hsb.2 c hc).trans hu') ?_ (setGO_ok R'.bare))⟩
  obtain ⟨o', ho', _⟩ := R'.ob
  exact ⟨o', ho'⟩
theorem pe_gadd (hu : X.A.units + 2 < cLine) (ho : PE X o to) (ha : PA X [e] t)
    (hbase : attributeBase o "add" X.env (eval o X.env) = eval o X.env := by rfl)
    (hfew : ((backTo cpos (starEach [e] X.env)).all (fun x => !x.1) && (backToKw cpos (keywordEach [] X.env)).all (fun x => x.1.isSome)
      && decide ([e].length + ([] : List Keyword).length + (if ([] : List Keyword).isEmpty then 0 else 1) < 30)) = true := by rfl)
    (hline : (apos.endLine == cpos.line) = true := by rfl) (hse : starEach [e] X.env = [(false, eval e X.env)] := by rfl) :
    PE X (.Call (.Attribute o "add" apos) [e] [] cpos) (tGAdd X.K X.prog X.w to t) := by
  refine ⟨fun pins s σ H Q I h => ?_⟩
  refine wpAny_Call_method_late hbase hfew hline rfl (thn (ho.run pins s σ H _ I h) fun v s1 ⟨x, H1, I1, r1, a, L, ex, eH, q1⟩ => ?_)
  subst ex
  obtain rfl : v = Value.ref a := r1
  have R0 : SetG0 X.prog X.w s1.heap a L := (I1.hok a _ eH).1
  obtain ⟨es, ep, tt, ⟨ob, hob, hex, hds⟩, _⟩ := R0.ex
  refine ⟨"set", "set.add", F.plainAttrs_set, F.slot_set_add, F.type_set_add, ⟨ob, hob, hex.1⟩, fun b eb => ?_, ?_⟩
  · injection eb with eb
    subst eb
    exact ⟨ob, hob, hex.2.1⟩
  have hA := ha.run cpos pins s1 σ H1 _ I1 q1
  rw [hse] at hA ⊢
  refine Calls.callWith_builtin rfl (Calls.evalArgs_plain ?_)
  refine thn hA fun us s2 ⟨vs, H2, I2, r2, b, k, ev, ea, hk, hb, few, q2⟩ => ?_
  subst ev
  cases r2 with
  | cons rb rn =>
    cases rn
    obtain rfl := (show _ = Value.ref b from rb)
    exact set_add_G (by omega) I2 ea hk hb few fun L' s' c1 c2 I3 => ⟨.non, _, I3, rfl, q2 L' c1 c2⟩
/-- k in found -/
def rGIn (K : PySem.W.Frag) (P : Program) (w : World) : R2 := fun x y H Q => ∃ (b a : Addr) (k : List Int) (L : List (Addr × List Int)), x = V.ref b ∧ y = V.ref a ∧ H a = some (SetGO P w a L) ∧ (∀ p ∈ L, SqT K H p.1 (p.2.map V.int)) ∧ SqT K H b (k.map V.int) ∧
  Q (.bl (decide (k ∈ L.map (·.2)))) H
theorem or_gin (hu : X.A.units + 1 < cLine) : OpR X (compareOp .In) (rGIn X.K X.prog X.w) := by
  intro pins s σ H x y v u Q I rx ry h
  obtain ⟨b, a, k, L, rfl, rfl, ha, hk, hb, q⟩ := h
  cases rx
  cases ry
  obtain ⟨es, ep, tt, R⟩ := setG_at I ha hk
  have hx : IsT X.prog X.w s.heap k b := I.isT hb
  obtain ⟨os, hos, hex, hds⟩ := id R.ob
  have hT : s.TypeIs (.ref a) "set" := ⟨os, hos, hex.1⟩
  show wpAny _ _ (contains (.ref a) (.ref b) >>= fun r => pure (Value.bool r)) _ _ s
  refine wpAny_bind ?_
  unfold contains
  try with_reducible refine wpAny_holding ?_
  refine wpAny_bind (wpAny_specialOf hT F.slot_set_contains.lookup ?_)
  show wpAny _ _ (if (some (Value.builtin "set.__contains__") == some Value.none) = true then _ else _) _ _ s
  rw [if_neg (by rw [beq_builtin_none]; exact Bool.false_ne_true)]
  refine wpAny_bind (wpAny_callSpecialUnlessNone?_slot (name := Str.ofString "__contains__") hT F.slot_set_contains
    (wpAny_call_entry F.slot_set_contains hT entry_set_contains ?_ (F.args_set_contains_2 _ _)))
  unfold Builtin.«frozenset.__contains__» Builtin.Frozenset.oneOther
  simp only [List.isEmpty_nil, bind_assoc]
  unfold Builtin.Frozenset.addrOf Builtin.Frozenset.withSetAsKey
  refine wpAny_bind (wpAny_pure ?_)
  try dsimp only
  refine wpAny_bind (wpAny_pure ?_)
  try dsimp only
  refine wpAny_bind (wpAny_tryCatch ?_)
  refine contains_at R hx (by show X.A.units + 1 < cLine; exact hu) ?_
  show wpAny _ _ (ret (Value.bool (decide (k ∈ L.map (·.2))))) _ _ _
  exact wpAny_pure ⟨_, rfl, wpAny_truthy_bool (wpAny_pure ⟨.bl _, H, I.tok _, rfl, q⟩)⟩
end
end DR

set_option Elab.async false
set_option linter.all false
set_option maxRecDepth 100000
set_option maxHeartbeats 4000000
/-! Dict comprehensions whose keys may be tuples. -/
namespace DR
open PySem PySem.Spec PyProof.Rows L2
section
variable {X : Cx}
/-- an entry put into a dict, as a comprehension puts it -/
theorem put_entry {A : Around} {E : Value → Shared → Prop} {pins : List (Addr × Obj)} {σ : L2.St} {H H' : Hp} {s : Shared} {a : Addr} {y v : V} {u r : Value} {Q : Unit → Shared → Prop} (hu : A.units < cLine) (I : Inv X pins σ H s) (g : DPut H a y v H') (ry : RelV y u) (rv : RelV v r)
    (h : ∀ s', Inv X pins σ H' s' → Q () s') : wpAny (model X.prog X.w) A (dictSet a u r) Q E s := by
  rcases g with ⟨kvs, k, e, ey, l, eH⟩ | ⟨kvs, k, b, e, ey, eb, l, eH⟩
  · subst ey eH
    obtain ⟨z, hd, vs, rel, dd⟩ := dk_of I.hok e
    have many := length_putK kvs k v
    refine wpAny_dictSet_pairs (hsz := by rw [← rel.length]; exact z) (kV_is ry) dd fun h' d2 hs => h _ ?_
    obtain ⟨q, es2, ep2, hq, more⟩ := id d2
    exact d_write I (by rw [e]; exact True.intro) hs ⟨q, hq⟩ (dk_new (by omega) hd (rel.put k rv) d2)
  · subst ey eH
    obtain rfl := (show u = Value.ref b from ry)
    obtain ⟨z, hd, xs, rel, dd⟩ := dt_of I.hok e
    have many := length_putK kvs k v
    refine wpAny_dictSet_heap (hsz := by rw [← Paired.length rel]; exact z) (show A.units < cLine from hu) (key_of I.hok eb) dd fun h' d2 hs => h _ ?_
    obtain ⟨q, es, ep, hq, h2, h3, h4, _, h5⟩ := d2
    refine d_write I (by rw [e]; exact True.intro) hs ⟨q, hq⟩ ⟨by omega, hd, _, (rel.put k eb rv).keeps fun c ys ec => ?_, q, es, ep, hq, h2, h3, h4, h5⟩
    rw [upd_ne (ne_of ec e (fun z => nomatch z))]
    exact ec
/-- an empty dict of either make -/
def Bare (e0 : HO) : Prop := e0 = .dK [] ∨ e0 = .dT []
theorem Bare.ok {P : Program} {w : World} {H : Hp} {e0 : HO} (b : Bare e0) (h : Heap) (hb : sysModules < h.objs.size) : ObjOk P w H (h.push { cls := .type "dict", data := .dict #[] }) h.objs.size e0 := by
  rcases b with e | e <;> subst e
  · exact dk_empty h hb
  · exact dt_empty h hb
/-- {k: v for target in iter if ..}: D the new dict, empty as e0 says -/
def tDg (e0 : HO) (wi : TI) (g : TG) (tt : TT) (tk tv : TE) (vs : List Nat) : TE := fun σ H Q => wi σ H fun J H1 => ∀ D, H1 D = none → ∃ W : Nat → Nat → Hp → Prop, (∃ m, W 0 m (upd H1 D e0)) ∧ ∀ i m H, W i m H →
  (J.stop i H ∧ Q (.ref D) H) ∨ (J.go i H ∧ ∃ Nx : Hp → Prop, (∀ H', Nx H' → ∃ m', m' < m ∧ W (i + 1) m' H') ∧ ∀ x H', J.yld i H x H' → g x (wipe σ vs) H' fun σ2 H2 => wipe σ2 vs = wipe σ vs ∧ tt σ2 H2 fun b H3 =>
    if b = true then tk σ2 H3 fun y H4 => tv σ2 H4 fun z H5 => ∃ H6, DPut H5 D y z H6 ∧ Nx H6 else Nx H3)
theorem dg_core {e0 : HO} (be : Bare e0) {pins : List (Addr × Obj)} {s : Shared} {σ : L2.St} {H : Hp} {Q : VK} {kx vx tg iter : Expr} {ifs : List Expr} {scope : Scope} {own : List (Str × Nat)} {pos pos' : Pos} {wi : TI} {g : TG} {tt : TT} {tk tv : TE} {use : Option (Value → Sem Unit)} {Qf : Value → Shared → Prop}
    (hu : X.A.units < cLine) (hc : X.calm = true) (hN : X.N.Nodup) (I : Inv X pins σ H s) (hi : PI X tg iter wi) (ok : BlkOk X.N X.env.scope scope own)
    (hg : ∀ s H C cl fp, PG (X.blk s H scope (compEnvC scope cl C X.env) fp) tg g) (ht : ∀ s H C cl fp, PTs (X.blk s H scope (compEnvC scope cl C X.env) fp) ifs tt)
    (hk : ∀ s H C cl fp, PE (X.blk s H scope (compEnvC scope cl C X.env) fp) kx tk) (he : ∀ s H C cl fp, PE (X.blk s H scope (compEnvC scope cl C X.env) fp) vx tv)
    (hs : ∀ x, foldedSetIterable iter X.env x = pure x) (h : tDg e0 wi g tt tk tv (own.map (·.2)) σ H Q)
    (last : ∀ D C s' m H', Inv X pins σ H' s' → Q (.ref D) H' → s'.heap.Ns C m → FpOk X pins H' C → compPost (model X.prog X.w) X.A X.xe use Qf (.ref D) C (.ok .next) s') :
    wpAny (model X.prog X.w) X.A (comprehension (.DictComp kx vx [⟨tg, iter, ifs, 0⟩] scope pos) scope X.env pos' newDict false (eval iter X.env) use) Qf X.xe s := by
  have cells : ∀ y ∈ scope.names, y.2 = .free → ∃ c, X.env.cells.lookup y.1 = some c := fun y hy e => I.ok.has _ (ok.free y hy e)
  refine wpAny_comprehension_free (use := use) rfl hs (closure_ok cells) ok.kind (fun y hy e => by rw [ok.uniq y hy, e])
    (thn (hi.run pins s σ H _ I h) fun xv s1 hx => thn hx fun itv s2 h2 => ?_)
  obtain ⟨it, fp, tn, J, H2, e, I2, T, st2, f2, q⟩ := h2
  subst e
  refine wpAny_newObj_type (newEnv_comp ?_)
  obtain ⟨D, hD⟩ : ∃ D, s2.heap.objs.size = D := ⟨_, rfl⟩
  obtain ⟨W, ⟨m0, w0⟩, turn⟩ := q D (I2.hok.fresh (Nat.le_of_eq hD))
  obtain ⟨s3, hs3⟩ : ∃ s3 : Shared, { s2 with heap := s2.heap.push { cls := .type "dict", data := .dict #[] } } = s3 := ⟨_, rfl⟩
  have h3 : s3.heap = s2.heap.push { cls := .type "dict", data := .dict #[] } := by rw [← hs3]
  have I3 : Inv X pins σ (upd H2 D e0) s3 := by
    subst hs3
    refine I2.laid (t' := s2.toks) (fun b o e => Heap.get?_push_of_some _ e) (Nat.le_of_eq hD) ?_
    subst hD
    exact be.ok s2.heap I2.big
  have f3 : ∀ b ∈ fp, FpOk X pins (upd H2 D e0) b ∧ b < s3.heap.objs.size := fun b hb => by
    obtain ⟨o, eo, _⟩ := T.obj _ _ st2 b hb
    have hlt := Heap.lt_size eo
    have nD : b ≠ D := by
      rw [← hD]
      exact Nat.ne_of_lt hlt
    refine ⟨⟨(upd_ne nD).trans (f2 b hb).1, (f2 b hb).2⟩, ?_⟩
    rw [h3, Heap.size_push]
    exact Nat.lt_succ_of_lt hlt
  have st3 : tn 0 s3.heap := T.keep _ _ _ st2 fun b _ o e => by
    rw [h3]
    exact Heap.get?_push_of_some _ e
  have I4 := block_start I3 ok hN f3
  have pg := hg s3 (upd H2 D e0) s3.heap.objs.size (cellsFrom (s3.heap.objs.size + 1) scope.names (cloFrom X.env.cells scope.names [])) fp
  have pt := ht s3 (upd H2 D e0) s3.heap.objs.size (cellsFrom (s3.heap.objs.size + 1) scope.names (cloFrom X.env.cells scope.names [])) fp
  have pk := hk s3 (upd H2 D e0) s3.heap.objs.size (cellsFrom (s3.heap.objs.size + 1) scope.names (cloFrom X.env.cells scope.names [])) fp
  have pe := he s3 (upd H2 D e0) s3.heap.objs.size (cellsFrom (s3.heap.objs.size + 1) scope.names (cloFrom X.env.cells scope.names [])) fp
  rw [hs3]
  show codeAny _ _ (.compStart (.DictComp kx vx [⟨tg, iter, ifs, 0⟩] scope pos) 0 (.ref it) (.ref s2.heap.objs.size) (compEnvC scope (cellsFrom (s3.heap.objs.size + 1) scope.names (cloFrom X.env.cells scope.names [])) s3.heap.objs.size X.env)) (compPost (model X.prog X.w) X.A X.xe use Qf (.ref s2.heap.objs.size) s3.heap.objs.size) { s3 with heap := pushCells (s3.heap.push { cls := .type "dict", data := .dict #[] }) scope.names }
  rw [hD]
  have nfp : ∀ b ∈ fp, (upd H2 D e0) b = none := fun b hb => (f3 b hb).1.1
  generalize hce : compEnvC scope (cellsFrom (s3.heap.objs.size + 1) scope.names (cloFrom X.env.cells scope.names [])) s3.heap.objs.size X.env = ce at I4 pg pt pk pe ⊢
  have cL : ce.locals = s3.heap.objs.size := by
    subst hce
    rfl
  generalize upd H2 D e0 = H3 at I3 I4 pg pt pk pe w0 nfp f3
  generalize hs4 : ({ s3 with heap := pushCells (s3.heap.push { cls := .type "dict", data := .dict #[] }) scope.names } : Shared) = s4 at I4 ⊢
  have st4 : tn 0 s4.heap := T.keep _ _ _ st3 fun b _ o e => by
    rw [← hs4]
    exact pushCells_keeps _ _ _ _ (Heap.get?_push_of_some _ e)
  have stat : ∀ {σ' : L2.St} {H' : Hp} {s' : Shared}, Inv (X.blk s3 H3 scope ce fp) [] σ' H' s' → (∀ b ∈ fp, H' b = none) → ∀ b ∈ fp, FpOk (X.blk s3 H3 scope ce fp) [] H' b := fun {σ' H' s'} I' hn b hb =>
    ⟨hn b hb, (I'.ok.exf b hb).1, I'.ok.exfs b hb, .inl hb, (I'.ok.exf b hb).2, fun p hp => absurd hp (by intro z; cases z)⟩
  have loop : codeAny (model X.prog X.w) X.A (.compLoop (.DictComp kx vx [⟨tg, iter, ifs, 0⟩] scope pos) 0 (.ref it) (.ref D) ce) (compPost (model X.prog X.w) X.A X.xe use Qf (.ref D) s3.heap.objs.size) s4 := by
    refine compLoop_anyD (fun n s' => ∃ i H', Inv (X.blk s3 H3 scope ce fp) [] (wipe σ (own.map (·.2))) H' s' ∧ tn i s'.heap ∧ (∀ b ∈ fp, H' b = none) ∧ W i n H') ?_ m0 ⟨0, H3, I4, st4, nfp, w0⟩
    rintro n s5 ⟨i, H5, I5, st5, n5, w5⟩
    rcases turn i n H5 w5 with ⟨stop, qq⟩ | ⟨go, Nx, hNx, step⟩
    · refine thnF (T.done (X.blk s3 H3 scope ce fp) rfl rfl rfl hc i [] s5 _ H5 (fun _ _ => False) I5 (stat I5 n5) st5 stop) fun r s6 ⟨hr, I6⟩ => ?_
      subst hr
      have I7 : Inv X pins σ H5 s6 := I3.call' (ch := fp) I6.os I6.base I6.hok I6.bare fun b hb =>
        let z := (f3 b hb).1.2
        ⟨z.2.2.1, z.1, z.2.2.2.1, z.2.2.2.2⟩
      obtain ⟨m, hn, _⟩ := I6.loc
      have hn : s6.heap.Ns ce.locals m := hn
      have nC : H5 ce.locals = none := I6.free
      rw [cL] at hn nC
      exact last D s3.heap.objs.size s6 m H5 I7 qq hn (I3.fpOk (Nat.le_refl _) nC)
    · refine thnF (T.item (X.blk s3 H3 scope ce fp) rfl rfl rfl hc i [] s5 _ H5 (fun _ _ => False) I5 (stat I5 n5) st5 go) fun r s6 ⟨u, hr, h6⟩ => ?_
      subst hr
      refine thnF h6 fun _ s7 ⟨x, H7, I7, r7, y7, st7, n7⟩ => ?_
      refine thnF (pg.run _ s7 _ H7 x u _ (I7.pinned (stat I7 n7) (T.obj _ _ st7)) r7 (step x H7 y7)) fun _ s8 ⟨σ8, H8, I8, hw8, q8⟩ => ?_
      refine thnF (pt.run _ s8 σ8 H8 _ I8 q8) fun b s9 ⟨H9, I9, q9⟩ => ?_
      have fin : ∀ {s' : Shared} {H' : Hp}, Inv (X.blk s3 H3 scope ce fp) ([] ++ pinsAt fp s7.heap) σ8 H' s' → Nx H' → ∃ m, m < n ∧ ∃ i H', Inv (X.blk s3 H3 scope ce fp) [] (wipe σ (own.map (·.2))) H' s' ∧ tn i s'.heap ∧ (∀ b ∈ fp, H' b = none) ∧ W i m H' := fun {s' H'} I' nx => by
        obtain ⟨m', hm, w'⟩ := hNx H' nx
        have kept : ∀ b ∈ fp, ∀ o, s7.heap.get? b = some o → s'.heap.get? b = some o ∧ H' b = none := fun b hb o e =>
          have z := I'.pin (b, o) (List.mem_append_right _ (List.mem_append_right _ (mem_pinsAt hb e)))
          ⟨z.1, z.2.1⟩
        refine ⟨m', hm, i + 1, H', (I'.unpinned (pins := [])).weak (by rw [← hw8, wipe_length]) (fun j v e => ?_), T.keep _ _ _ st7 fun b hb o e => (kept b hb o e).1, fun b hb => ?_, w'⟩
        · rw [← hw8] at e
          exact (wipe_some e).1
        · obtain ⟨o, eo, _⟩ := T.obj _ _ st7 b hb
          exact (kept b hb o eo).2
      cases b with
      | false => exact fin I9 q9
      | true =>
        refine thnF (pk.run _ s9 σ8 H9 _ I9 q9) fun z s10 ⟨yk, H10, I10, r10, q10⟩ => ?_
        refine thnF (pe.run _ s10 σ8 H10 _ I10 q10) fun z2 s11 ⟨yv, H11, I11, r11, H12, put, nx⟩ => ?_
        exact put_entry (X := X.blk s3 H3 scope ce fp) hu I11 put r10 r11 fun s12 I12 => fin I12 nx
  exact codeAny_compStart_dict loop (T.self X.A 0 _ _ _ st4 loop)
theorem pe_dg {e0 : HO} (be : Bare e0) {kx vx tg iter : Expr} {ifs : List Expr} {scope : Scope} {own : List (Str × Nat)} {pos : Pos} {wi : TI} {g : TG} {tt : TT} {tk tv : TE} (hu : X.A.units < cLine) (hc : X.calm = true) (hN : X.N.Nodup) (hi : PI X tg iter wi) (ok : BlkOk X.N X.env.scope scope own)
    (hg : ∀ s H C cl fp, PG (X.blk s H scope (compEnvC scope cl C X.env) fp) tg g) (ht : ∀ s H C cl fp, PTs (X.blk s H scope (compEnvC scope cl C X.env) fp) ifs tt)
    (hk : ∀ s H C cl fp, PE (X.blk s H scope (compEnvC scope cl C X.env) fp) kx tk) (he : ∀ s H C cl fp, PE (X.blk s H scope (compEnvC scope cl C X.env) fp) vx tv)
    (hs : ∀ x, foldedSetIterable iter X.env x = pure x := by intro _; rfl) : PE X (.DictComp kx vx [⟨tg, iter, ifs, 0⟩] scope pos) (tDg e0 wi g tt tk tv (own.map (·.2))) := by
  refine ⟨fun pins s σ H Q I h => ?_⟩
  rw [arm_eval_DictComp]
  refine dg_core be hu hc hN I hi ok hg ht hk he hs h fun D C s' m H' I' q hn f => ⟨m, hn, fun h'' sb => ?_⟩
  obtain ⟨f0, f1, f2, f3, f4, f5⟩ := f
  exact ⟨.ref D, H', I'.turned (t' := s'.toks) (fun b o hb e => (sb.2 b hb).trans e) f0 f1 f3 f4 f5, rfl, q⟩
/-- over a list that stays -/
theorem dg_list {e0 : HO} {K : PySem.W.Frag} {a : Addr} {xs : List V} {g : TG} {tt : TT} {tk tv : TE} {vs : List Nat} {σ : L2.St} {H1 : Hp} {D : Addr} {Qd : Hp → Prop} (Pv : Nat → Hp → Prop) (h0 : Pv 0 (upd H1 D e0)) (hl : ∀ i H, i ≤ xs.length → Pv i H → SqL K H a xs)
    (hs : ∀ i x H, xs[i]? = some x → Pv i H → g x (wipe σ vs) H fun σ2 H2 => wipe σ2 vs = wipe σ vs ∧ tt σ2 H2 fun b H3 =>
      if b = true then tk σ2 H3 fun y H4 => tv σ2 H4 fun z H5 => ∃ H6, DPut H5 D y z H6 ∧ Pv (i + 1) H6 else Pv (i + 1) H3) (hd : ∀ H, Pv xs.length H → Qd H) :
    ∃ W : Nat → Nat → Hp → Prop, (∃ m, W 0 m (upd H1 D e0)) ∧ ∀ i m H, W i m H →
      ((Itl K a).stop i H ∧ Qd H) ∨ ((Itl K a).go i H ∧ ∃ Nx : Hp → Prop, (∀ H', Nx H' → ∃ m', m' < m ∧ W (i + 1) m' H') ∧ ∀ x H', (Itl K a).yld i H x H' → g x (wipe σ vs) H' fun σ2 H2 => wipe σ2 vs = wipe σ vs ∧ tt σ2 H2 fun b H3 =>
        if b = true then tk σ2 H3 fun y H4 => tv σ2 H4 fun z H5 => ∃ H6, DPut H5 D y z H6 ∧ Nx H6 else Nx H3) := by
  refine ⟨fun i m H => i + m = xs.length ∧ Pv i H, ⟨xs.length, by simp, h0⟩, ?_⟩
  rintro i m H ⟨em, p⟩
  have q := hl i H (by omega) p
  by_cases hlt : i < xs.length
  · refine .inr ⟨⟨xs, xs[i], q, by simp [hlt]⟩, Pv (i + 1), fun H' p' => ⟨m - 1, by omega, by omega, p'⟩, fun x H' y => ?_⟩
    obtain ⟨e, y⟩ := y
    subst e
    exact hs i x _ (y xs q) p
  · obtain rfl : i = xs.length := by omega
    exact .inl ⟨⟨xs, q, Nat.le_refl _⟩, hd H p⟩
/-- over a range -/
theorem dg_range {e0 : HO} {lo : Int} {n : Nat} {g : TG} {tt : TT} {tk tv : TE} {vs : List Nat} {σ : L2.St} {H1 : Hp} {D : Addr} {Qd : Hp → Prop} (Pv : Nat → Hp → Prop) (h0 : Pv 0 (upd H1 D e0))
    (hs : ∀ i H, i < n → Pv i H → g (.int (lo + i)) (wipe σ vs) H fun σ2 H2 => wipe σ2 vs = wipe σ vs ∧ tt σ2 H2 fun b H3 =>
      if b = true then tk σ2 H3 fun y H4 => tv σ2 H4 fun z H5 => ∃ H6, DPut H5 D y z H6 ∧ Pv (i + 1) H6 else Pv (i + 1) H3) (hd : ∀ H, Pv n H → Qd H) :
    ∃ W : Nat → Nat → Hp → Prop, (∃ m, W 0 m (upd H1 D e0)) ∧ ∀ i m H, W i m H →
      ((Itr lo n).stop i H ∧ Qd H) ∨ ((Itr lo n).go i H ∧ ∃ Nx : Hp → Prop, (∀ H', Nx H' → ∃ m', m' < m ∧ W (i + 1) m' H') ∧ ∀ x H', (Itr lo n).yld i H x H' → g x (wipe σ vs) H' fun σ2 H2 => wipe σ2 vs = wipe σ vs ∧ tt σ2 H2 fun b H3 =>
        if b = true then tk σ2 H3 fun y H4 => tv σ2 H4 fun z H5 => ∃ H6, DPut H5 D y z H6 ∧ Nx H6 else Nx H3) := by
  refine ⟨fun i m H => i + m = n ∧ Pv i H, ⟨n, by simp, h0⟩, ?_⟩
  rintro i m H ⟨em, p⟩
  by_cases hlt : i < n
  · refine .inr ⟨hlt, Pv (i + 1), fun H' p' => ⟨m - 1, by omega, by omega, p'⟩, fun x H' y => ?_⟩
    obtain ⟨e, y⟩ := y
    subst e
    subst y
    exact hs i _ hlt p
  · obtain rfl : i = n := by omega
    exact .inl ⟨Nat.le_refl _, hd H p⟩
end
end DR

set_option Elab.async false
set_option linter.all false
set_option maxRecDepth 100000
set_option maxHeartbeats 4000000
namespace DR
open PySem PySem.Spec PyProof.Rows L2
/-! ### defs of the text, as they are called -/
/-- the module's name x is the def st -/
def IsDef (K : PySem.W.Frag) (mg : Str → Option Value) (x : Str) (st : Stmt) : Prop := ∃ f fd, FunD K x x (defArgs st) (defBody st) (defScope st) [] [] f fd ∧ mg x = some (.ref f)
/-- the class at C has the method m, the def st -/
def IsMeth (K : PySem.W.Frag) (C : Addr) (m qual : Str) (st : Stmt) : Prop := ∃ f fd, FunD K m qual (defArgs st) (defBody st) (defScope st) [] [] f fd ∧ Meth K C m f
/-- how many values it takes -/
def Takes0 (x q : Str) (st : Stmt) (ps : List Str) : Prop := ∀ (kV doc pm : Value) (an : Option Addr) (cdv ct : Value) (us : List Value), us.length = ps.length → bindArgs (PySem.W.fnOf x q (defArgs st) (defBody st) (defScope st) .none kV doc pm an cdv ct) ⟨us, []⟩ = pure (ps.zip us)
/-- called by its name it keeps sp -/
def Has (P : Program) (w : World) (K : PySem.W.Frag) (mg : Str → Option Value) (base : Heap) (k : Nat) (x : Str) (ps : List Str) (sp : Sp) : Prop :=
  ∃ f fd, mg x = some (.ref f) ∧ PySem.W.keepIn K (.ref f) = true ∧ FnOk P w K mg base CX0 k f fd ps sp ∧ L2.Binds K fd ps []
def HasM (P : Program) (w : World) (K : PySem.W.Frag) (mg : Str → Option Value) (base : Heap) (C : Addr) (k : Nat) (m : Str) (ps : List Str) (sp : Sp) : Prop :=
  ∃ f fd, Meth K C m f ∧ FnOk P w K mg base CX0 k f fd ps sp ∧ L2.Binds K fd ps []
section
variable {P : Program} {w : World} {K : PySem.W.Frag} {mg : Str → Option Value} {base : Heap}
theorem Has.up {j k : Nat} {x : Str} {ps : List Str} {sp : Sp} (h : Has P w K mg base j x ps sp) (l : j ≤ k) : Has P w K mg base k x ps sp := by
  obtain ⟨f, fd, h1, h2, h3, h4⟩ := h
  exact ⟨f, fd, h1, h2, h3.mono l, h4⟩
theorem HasM.up {C : Addr} {j k : Nat} {x : Str} {ps : List Str} {sp : Sp} (h : HasM P w K mg base C j x ps sp) (l : j ≤ k) : HasM P w K mg base C k x ps sp := by
  obtain ⟨f, fd, h1, h3, h4⟩ := h
  exact ⟨f, fd, h1, h3.mono l, h4⟩
theorem Has.weak {k : Nat} {x : Str} {ps : List Str} {sp sp' : Sp} (h : Has P w K mg base k x ps sp) (l : ∀ vs H Q E, sp' vs H Q E → sp vs H Q E) : Has P w K mg base k x ps sp' := by
  obtain ⟨f, fd, h1, h2, h3, h4⟩ := h
  exact ⟨f, fd, h1, h2, h3.imp l, h4⟩
/-- THE RULE for a def that lets nothing out -/
theorem has_of {x : Str} {st : Stmt} {N ps : List Str} {k : Nat} {sp : Sp} (D : IsDef K mg x st) (S : FnScope N ps (defScope st)) (B : Takes0 x x st ps) (len : ∀ vs H Q E, sp vs H Q E → vs.length = ps.length)
    (body : ∀ (f : Addr) (cdv : Value) (A : Around) (outer : List Env) (s : Shared) (H : Hp) (vs : List V) (Q : VK) (E : XK), Room k (A.deeper (envOfC x (defScope st) s.heap.objs.size f cdv)) → sp vs H Q E →
      ∃ t, PSs (cxOf CX0 P w K mg base N x (defScope st) f cdv A outer s H E).nox (defBody st) t ∧ t { nx := fun _ H' => Q .non H', rt := Q } (start N vs) H) : Has P w K mg base (k + 1) x ps sp := by
  obtain ⟨f, fd, F, g⟩ := D
  exact ⟨f, fd, g, F.kp, F.ok S len fun cdv A outer s H vs Q E hr h => (body f cdv A outer s H vs Q E hr h).imp fun t z => ⟨z.1.nox, z.2⟩, F.bindsN B⟩
theorem hasM_of {C : Addr} {x q : Str} {st : Stmt} {N ps : List Str} {k : Nat} {sp : Sp} (D : IsMeth K C x q st) (S : FnScope N ps (defScope st)) (B : Takes0 x q st ps) (len : ∀ vs H Q E, sp vs H Q E → vs.length = ps.length)
    (body : ∀ (f : Addr) (cdv : Value) (A : Around) (outer : List Env) (s : Shared) (H : Hp) (vs : List V) (Q : VK) (E : XK), Room k (A.deeper (envOfC q (defScope st) s.heap.objs.size f cdv)) → sp vs H Q E →
      ∃ t, PSs (cxOf CX0 P w K mg base N q (defScope st) f cdv A outer s H E).nox (defBody st) t ∧ t { nx := fun _ H' => Q .non H', rt := Q } (start N vs) H) : HasM P w K mg base C (k + 1) x ps sp := by
  obtain ⟨f, fd, F, g⟩ := D
  exact ⟨f, fd, g, F.ok S len fun cdv A outer s H vs Q E hr h => (body f cdv A outer s H vs Q E hr h).imp fun t z => ⟨z.1.nox, z.2⟩, F.bindsN B⟩
end
section
variable {X : Cx} {e o : Expr} {es : List Expr} {t : TA} {ta : TE} {x m : Str} {p pos apos : Pos} {k j : Nat} {ps : List Str} {sp : Sp}
/-- f(..) by its promise -/
def tHas (sp : Sp) (t : TA) : TE := fun σ H Q => t σ H fun vs H1 => sp vs H1 Q E0
theorem pe_has (h : Has X.prog X.w X.K X.mg X.base k x ps sp) (hr : Room j X.A) (l : k ≤ j) (hg : Gl X x) (ha : PA X (e :: es) t)
    (hdb : (x == ("__debug__" : Str)) = false := by decide) (he : starEach (e :: es) X.env = (false, eval e X.env) :: starEach es X.env := by rfl) (hpl : (backTo pos (starEach es X.env)).any (·.1) = false := by rfl) :
    PE X (.Call (.Name x p) (e :: es) [] pos) (tHas sp t) := by
  obtain ⟨f, fd, h1, h2, h3, h4⟩ := h
  have z := pe_call (p := p) (pos := pos) (dvs := []) (ds := []) h3 (hr.mono l) hg h1 h2 h4 .nil pass0 ha hdb he hpl
  refine ⟨fun pins s σ H Q I q => z.run pins s σ H Q I ?_⟩
  have q' : t σ H fun vs H1 => sp vs H1 Q E0 := q
  show t σ H fun vs H1 => sp (vs ++ []) H1 Q E0
  simpa only [List.append_nil] using q'
end
section
variable {X : Cx} {e o : Expr} {es : List Expr} {t : TA} {ta : TE} {x m : Str} {p pos apos : Pos} {k j : Nat} {ps : List Str} {sp : Sp} {C : Addr}
/-- o.m(..) by its promise -/
def tHasM (C : Addr) (m : Str) (sp : Sp) (ta : TE) (t : TA) : TE := fun σ H Q => ta σ H fun x H1 => ∃ a dx fs, x = .ref a ∧ H1 a = some (.ins C dx fs) ∧ fs.lookup m = none ∧ t σ H1 fun vs H2 => sp (x :: vs) H2 Q E0
theorem pe_hasM {pl : Sem Bool} (he : PE X o ta) (c : Cls X.K C) (h : HasM X.prog X.w X.K X.mg X.base C k m ps sp) (hr : Room j X.A) (l : k ≤ j) (ha : PA X (e :: es) t)
    (hst : starEach (e :: es) X.env = (false, eval e X.env) :: starEach es X.env := by rfl) (hpl : (backTo pos (starEach es X.env)).any (·.1) = false := by rfl)
    (ht : eval (.Call (.Attribute o m apos) (e :: es) [] pos) X.env = (do
      let ov ← eval o X.env
      standAt apos.atName
      let (f, first) ← holding [ov] (getMethod ov m pl)
      callWith pos f first (backTo pos (starEach (e :: es) X.env)) (backToKw pos (keywordEach [] X.env))) := by rfl) :
    PE X (.Call (.Attribute o m apos) (e :: es) [] pos) (tHasM C m sp ta t) := by
  obtain ⟨f, fd, h1, h3, h4⟩ := h
  have z := pe_meth (apos := apos) (pos := pos) (dvs := []) (ds := []) he c h1 h3 (hr.mono l) h4 .nil pass0 ha hst hpl ht
  refine ⟨fun pins s σ H Q I q => z.run pins s σ H Q I ?_⟩
  have q' : tHasM C m sp ta t σ H Q := q
  unfold tHasM at q'
  unfold tMeth
  simpa only [List.append_nil] using q'
theorem pe_hasM0 {pl : Sem Bool} (he : PE X o ta) (c : Cls X.K C) (h : HasM X.prog X.w X.K X.mg X.base C k m ps sp) (hr : Room j X.A) (l : k ≤ j)
    (ht : eval (.Call (.Attribute o m apos) [] [] pos) X.env = (do
      let ov ← eval o X.env
      standAt apos.atName
      let (f, first) ← holding [ov] (getMethod ov m pl)
      callWith pos f first (backTo pos (starEach [] X.env)) (backToKw pos (keywordEach [] X.env))) := by rfl) :
    PE X (.Call (.Attribute o m apos) [] [] pos) (tHasM C m sp ta tNil) := by
  obtain ⟨f, fd, h1, h3, h4⟩ := h
  have z := pe_meth0 (apos := apos) (pos := pos) (dvs := []) (ds := []) he c h1 h3 (hr.mono l) h4 .nil pass0 ht
  refine ⟨fun pins s σ H Q I q => z.run pins s σ H Q I ?_⟩
  have q' : tHasM C m sp ta tNil σ H Q := q
  unfold tHasM at q'
  unfold tMeth
  simpa only [List.append_nil] using q'
/-- C(..) by the promise of its __init__ -/
def tHasMk (C : Addr) (sp : Sp) (t : TA) : TE := fun σ H Q => t σ H fun vs H1 => ∀ x dx, H1 x = none → H1 dx = none → dx ≠ x → sp (.ref x :: vs) (L2.upd (L2.upd H1 dx (.own x)) x (.ins C dx [])) (fun v H2 => v = .non ∧ Q (.ref x) H2) E0
theorem pe_hasMk (h : HasM X.prog X.w X.K X.mg X.base C k "__init__" ps sp) (mk : PySem.W.makesIn X.K C = true) (kc : PySem.W.keepIn X.K (.ref C) = true) (hr : Room j X.A) (l : k + 1 ≤ j) (hg : Gl X x) (hm : X.mg x = some (.ref C)) (ha : PA X (e :: es) t)
    (hdb : (x == ("__debug__" : Str)) = false := by decide) (he : starEach (e :: es) X.env = (false, eval e X.env) :: starEach es X.env := by rfl) (hpl : (backTo pos (starEach es X.env)).any (·.1) = false := by rfl) :
    PE X (.Call (.Name x p) (e :: es) [] pos) (tHasMk C sp t) := by
  obtain ⟨f, fd, h1, h3, h4⟩ := h
  have z := pe_make (p := p) (pos := pos) (dvs := []) (ds := []) ⟨mk, h1.at_, h1.fn, kc⟩ h3 (hr.mono l) hg hm h4 .nil pass0 ha hdb he hpl
  refine ⟨fun pins s σ H Q I q => z.run pins s σ H Q I ?_⟩
  have q' : tHasMk C sp t σ H Q := q
  unfold tHasMk at q'
  unfold tMake
  simpa only [List.append_nil] using q'
end
/-! ### builtins that no name of the module hides -/
structure Blt (mg : Str → Option Value) : Prop where
  abs : mg "abs" = none
  all : mg "all" = none
  bool : mg "bool" = none
  dict : mg "dict" = none
  enumerate : mg "enumerate" = none
  int : mg "int" = none
  isinstance : mg "isinstance" = none
  len : mg "len" = none
  list : mg "list" = none
  max : mg "max" = none
  min : mg "min" = none
  range : mg "range" = none
  set : mg "set" = none
  sorted : mg "sorted" = none
  str : mg "str" = none
  tuple : mg "tuple" = none
  zip : mg "zip" = none
/-! ### heaps -/
/-- all but d is as it was -/
def Kp (d : Addr) (H H' : Hp) : Prop := ∀ b o, b ≠ d → H b = some o → H' b = some o
theorem Kp.refl (d : Addr) (H : Hp) : Kp d H H := fun _ _ _ h => h
theorem Kp.trans {d : Addr} {H H1 H2 : Hp} (a : Kp d H H1) (b : Kp d H1 H2) : Kp d H H2 := fun c o n h => b c o n (a c o n h)
theorem Same.kp {H H' : Hp} (s : Same H H') (d : Addr) : Kp d H H' := fun b o _ h => s b o h
theorem Kp.put (d : Addr) (H : Hp) (o : HO) : Kp d H (upd H d o) := fun b u n h => by
  rw [upd_ne n]
  exact h
theorem same_new {H : Hp} {p : Addr} {o : HO} (h : H p = none) : Same H (upd H p o) := fun b u e => by
  rw [upd_ne (ne_of_none e h)]
  exact e
theorem none_upd {H : Hp} {p q : Addr} {o : HO} (h : upd H p o q = none) : q ≠ p ∧ H q = none := by
  have n : q ≠ p := fun z => by
    rw [z, upd_same] at h
    cases h
  rw [upd_ne n] at h
  exact ⟨n, h⟩
theorem upd_self {H : Hp} {d : Addr} {o : HO} (h : H d = some o) : upd H d o = H := by
  funext b
  by_cases c : b = d
  · rw [c, upd_same, h]
  · exact upd_ne c
theorem seq_keep {K : PySem.W.Frag} {H H' : Hp} {a : Addr} {xs : List V} (k : ∀ b o, b = a → H b = some o → H' b = some o) (h : SqL K H a xs) : SqL K H' a xs := by
  rcases h with (h | ⟨o, h⟩) | h
  · exact .inl (.inl (k _ _ rfl h))
  · exact .inl (.inr ⟨o, k _ _ rfl h⟩)
  · exact .inr h
theorem ints_at {ns : List Int} {i : Nat} {y : V} (hi : (ns.map V.int)[i]? = some y) : ∃ z, y = V.int z := by
  rw [List.getElem?_map] at hi
  cases e : ns[i]? with
  | none =>
    rw [e] at hi
    cases hi
  | some z =>
    rw [e] at hi
    exact ⟨z, (Option.some.inj hi).symm⟩
theorem iteD {c A B : Prop} [Decidable c] (hc : c) (h : A) : if decide c = true then A else B := by
  rw [decide_eq_true hc]
  exact iteT h
/-- the dice: two numbers and more -/
def Dice (o : HO) : Prop := ∃ xs : List Int, o = .lst (xs.map V.int) ∧ 2 ≤ xs.length
def DiceAt (H : Hp) (d : Addr) : Prop := ∃ o, H d = some o ∧ Dice o
theorem DiceAt.put {H : Hp} {d : Addr} {o : HO} (h : Dice o) : DiceAt (upd H d o) d := ⟨o, upd_same, h⟩
theorem fmod_in {a m : Int} (h : 0 < m) : 0 ≤ a.fmod m ∧ a.fmod m < m := by
  rw [Int.fmod_eq_emod_of_nonneg _ (Int.le_of_lt h)]
  exact ⟨Int.emod_nonneg _ (by omega), Int.emod_lt_of_pos _ h⟩
/-- tuples of two numbers each -/
def TupsAt (H : Hp) (as : List Addr) (ps : List (Int × Int)) : Prop := Paired (fun a (p : Int × Int) => H a = some (.tup [.int p.1, .int p.2])) as ps
theorem TupsAt.keep {H H' : Hp} {as : List Addr} {ps : List (Int × Int)} (h : TupsAt H as ps) (k : ∀ b xs, H b = some (.tup xs) → H' b = some (.tup xs)) : TupsAt H' as ps := Paired.mapP h fun a p e => k _ _ e
theorem TupsAt.same {H H' : Hp} {as : List Addr} {ps : List (Int × Int)} (h : TupsAt H as ps) (k : Same H H') : TupsAt H' as ps := h.keep fun b _ e => k b _ e
theorem TupsAt.lst {H : Hp} {D : Addr} {xs : List V} {o : HO} {as : List Addr} {ps : List (Int × Int)} (h : TupsAt H as ps) (hD : H D = some (.lst xs)) : TupsAt (upd H D o) as ps := h.keep fun b ys e => by
  rw [upd_ne (ne_of e hD (by intro z; cases z))]
  exact e
theorem TupsAt.new {H : Hp} {D : Addr} {o : HO} {as : List Addr} {ps : List (Int × Int)} (h : TupsAt H as ps) (hD : H D = none) : TupsAt (upd H D o) as ps := h.same (same_new hD)
theorem TupsAt.append {H : Hp} : ∀ {as bs : List Addr} {ps qs : List (Int × Int)}, TupsAt H as ps → TupsAt H bs qs → TupsAt H (as ++ bs) (ps ++ qs)
  | _, _, _, _, .nil, h => h
  | _, _, _, _, .cons r t, h => .cons r (TupsAt.append t h)
theorem TupsAt.length {H : Hp} {as : List Addr} {ps : List (Int × Int)} (h : TupsAt H as ps) : as.length = ps.length := Paired.length h
theorem TupsAt.at_ {H : Hp} : ∀ {as : List Addr} {ps : List (Int × Int)} {i : Nat} {a : Addr}, TupsAt H as ps → as[i]? = some a → ∃ p, ps[i]? = some p ∧ H a = some (.tup [.int p.1, .int p.2])
  | _, _, _, _, .nil, e => by simp at e
  | _, _, 0, _, .cons r _, e => by
    simp at e
    subst e
    exact ⟨_, rfl, r⟩
  | _, _, i + 1, a, .cons _ t, e => by
    obtain ⟨p, h1, h2⟩ := TupsAt.at_ (i := i) (a := a) t (by simpa using e)
    exact ⟨p, by simpa using h1, h2⟩
theorem refs_at' {as : List Addr} {i : Nat} {y : V} (hi : (as.map V.ref)[i]? = some y) : ∃ a, y = V.ref a ∧ as[i]? = some a := by
  rw [List.getElem?_map] at hi
  cases e : as[i]? with
  | none =>
    rw [e] at hi
    cases hi
  | some z =>
    rw [e] at hi
    exact ⟨z, (Option.some.inj hi).symm, rfl⟩
/-- a list of them -/
def PairsAt (H : Hp) (l : Addr) (ps : List (Int × Int)) : Prop := ∃ as : List Addr, H l = some (.lst (as.map V.ref)) ∧ TupsAt H as ps
theorem PairsAt.keep {H H' : Hp} {l : Addr} {ps : List (Int × Int)} (h : PairsAt H l ps) (k : ∀ b o, H b = some o → (b = l ∨ ∃ xs, o = .tup xs) → H' b = some o) : PairsAt H' l ps := by
  obtain ⟨as, e, t⟩ := h
  exact ⟨as, k _ _ e (.inl rfl), t.keep fun b xs z => k _ _ z (.inr ⟨xs, rfl⟩)⟩
theorem PairsAt.same {H H' : Hp} {l : Addr} {ps : List (Int × Int)} (h : PairsAt H l ps) (k : Same H H') : PairsAt H' l ps := h.keep fun b o e _ => k b o e
theorem PairsAt.kp {H H' : Hp} {d l : Addr} {ps : List (Int × Int)} {xs : List V} (h : PairsAt H l ps) (k : Kp d H H') (hd : H d = some (.lst xs)) (n : l ≠ d) : PairsAt H' l ps := h.keep fun b o e z => k b o (by
  rcases z with z | ⟨ys, z⟩
  · exact z ▸ n
  · subst z
    exact ne_of e hd (by intro z; cases z)) e
/-! ### all pairs -/
def rowOf (n i : Nat) : List (Int × Int) := (List.range (n - (i + 1))).map fun j : Nat => ((i : Int), (i : Int) + 1 + (j : Int))
def pairsTo (n k : Nat) : List (Int × Int) := (List.range k).flatMap (rowOf n)
def pairsOf (n : Nat) : List (Int × Int) := pairsTo n n
theorem pairsTo_succ (n k : Nat) : pairsTo n (k + 1) = pairsTo n k ++ rowOf n k := by
  unfold pairsTo
  rw [List.range_succ, List.flatMap_append]
  simp
theorem rowOf_take (n i j : Nat) (h : j < n - (i + 1)) : (rowOf n i).take (j + 1) = (rowOf n i).take j ++ [((i : Int), (i : Int) + 1 + (j : Int))] := by
  unfold rowOf
  rw [List.take_succ]
  simp [h]
theorem rowOf_len (n i : Nat) : (rowOf n i).length = n - (i + 1) := by simp [rowOf]
theorem pairsTo_len (n : Nat) : ∀ k, (pairsTo n k).length ≤ k * n
  | 0 => by simp [pairsTo]
  | k + 1 => by
    rw [pairsTo_succ, List.length_append, rowOf_len, Nat.succ_mul]
    have := pairsTo_len n k
    omega
theorem mem_pairsTo {n k : Nat} {a b : Int} : (a, b) ∈ pairsTo n k ↔ 0 ≤ a ∧ a < k ∧ a < b ∧ b < n := by
  unfold pairsTo rowOf
  rw [List.mem_flatMap]
  constructor
  · rintro ⟨i, hi, hm⟩
    obtain ⟨j, hj, e⟩ := List.mem_map.mp hm
    have hi := List.mem_range.mp hi
    have hj := List.mem_range.mp hj
    injection e with e1 e2
    omega
  · rintro ⟨h1, h2, h3, h4⟩
    refine ⟨a.toNat, List.mem_range.mpr (by omega), List.mem_map.mpr ⟨(b - a - 1).toNat, List.mem_range.mpr (by omega), ?_⟩⟩
    rw [Prod.mk.injEq]
    omega
theorem mem_pairsOf {n : Nat} {a b : Int} : (a, b) ∈ pairsOf n ↔ 0 ≤ a ∧ a < b ∧ b < n := by
  unfold pairsOf
  rw [mem_pairsTo]
  omega
theorem nodup_pairsTo (n : Nat) : ∀ k, (pairsTo n k).Nodup
  | 0 => by simp [pairsTo]
  | k + 1 => by
    rw [pairsTo_succ, List.nodup_append]
    refine ⟨nodup_pairsTo n k, ?_, ?_⟩
    · unfold rowOf
      refine List.Pairwise.map _ (fun a b h e => ?_) List.nodup_range
      · injection e with e1 e2
        exact h (by omega)
    · rintro ⟨a, b⟩ h1 ⟨c, d⟩ h2 e
      injection e with e1 e2
      have h3 := (mem_pairsTo.mp h1).2.1
      unfold rowOf at h2
      obtain ⟨j, _, e3⟩ := List.mem_map.mp h2
      injection e3 with e4 e5
      omega
theorem nodup_pairsOf (n : Nat) : (pairsOf n).Nodup := nodup_pairsTo n n
theorem pairsOf_len (n : Nat) : (pairsOf n).length ≤ n * n := pairsTo_len n n
/-! ### ties of a yard -/
structure Ties (n : Nat) (ps : List (Int × Int)) : Prop where
  nd : ps.Nodup
  rng : ∀ p ∈ ps, 0 ≤ p.1 ∧ p.1 < p.2 ∧ p.2 < n
theorem Ties.all (n : Nat) : Ties n (pairsOf n) := ⟨nodup_pairsOf n, fun ⟨a, b⟩ h => mem_pairsOf.mp h⟩
theorem Ties.sub {n : Nat} {ps qs : List (Int × Int)} (h : Ties n ps) (s : qs.Sublist ps) : Ties n qs := ⟨h.nd.sublist s, fun p hp => h.rng p (s.subset hp)⟩
theorem Ties.perm {n : Nat} {ps qs : List (Int × Int)} (h : Ties n ps) (s : qs.Perm ps) : Ties n qs := ⟨s.nodup_iff.mpr h.nd, fun p hp => h.rng p (s.mem_iff.mp hp)⟩
theorem nodup_le {α : Type} [DecidableEq α] : ∀ (l D : List α), l.Nodup → (∀ x ∈ l, x ∈ D) → l.length ≤ D.length
  | [], _, _, _ => Nat.zero_le _
  | x :: l, D, hn, hs => by
    obtain ⟨h1, h2⟩ := List.nodup_cons.mp hn
    have hx : x ∈ D := hs x List.mem_cons_self
    have ih := nodup_le l (D.erase x) h2 fun y hy => (List.mem_erase_of_ne (fun (e : y = x) => h1 (e ▸ hy))).2 (hs y (List.mem_cons_of_mem _ hy))
    have e := List.length_erase_of_mem hx
    have hp : 0 < D.length := List.length_pos_of_mem hx
    rw [List.length_cons]
    omega
theorem Ties.len {n : Nat} {ps : List (Int × Int)} (h : Ties n ps) : ps.length ≤ n * n :=
  Nat.le_trans (nodup_le ps (pairsOf n) h.nd fun ⟨a, b⟩ hp => mem_pairsOf.mpr (h.rng _ hp)) (pairsOf_len n)
theorem Ties.len900 {n : Nat} {ps : List (Int × Int)} (h : Ties n ps) (hn : n ≤ 30) : ps.length ≤ 900 :=
  Nat.le_trans h.len (Nat.mul_le_mul hn hn)
/-- a permuted list of tuples is one of tuples -/
theorem TupsAt.perm {H : Hp} {as : List Addr} {ps : List (Int × Int)} (h : TupsAt H as ps) {ys : List V} (pm : ys.Perm (as.map V.ref)) : ∃ bs qs, ys = bs.map V.ref ∧ TupsAt H bs qs ∧ qs.Perm ps := by
  have hy : ∀ y ∈ ys, ∃ a, y = V.ref a := fun y hy => by
    obtain ⟨a, _, e⟩ := List.mem_map.mp (pm.mem_iff.mp hy)
    exact ⟨a, e.symm⟩
  have key : ∀ {zs ws : List V}, zs.Perm ws → ∀ (as : List Addr) (ps : List (Int × Int)), ws = as.map V.ref → TupsAt H as ps → ∃ bs qs, zs = bs.map V.ref ∧ TupsAt H bs qs ∧ qs.Perm ps := by
    intro zs ws pm
    induction pm with
    | nil =>
      intro as ps e t
      have : as = [] := by simpa using e.symm
      subst this
      cases t
      exact ⟨[], [], rfl, .nil, List.Perm.refl _⟩
    | cons x _ ih =>
      intro as ps e t
      cases as with
      | nil => cases e
      | cons a as =>
        cases t with
        | cons r t =>
          injection e with e1 e2
          obtain ⟨bs, qs, h1, h2, h3⟩ := ih as _ e2 t
          exact ⟨a :: bs, _ :: qs, by rw [h1, e1] <;> rfl, .cons r h2, h3.cons _⟩
    | swap x y l =>
      intro as ps e t
      cases as with
      | nil => cases e
      | cons a as =>
        cases as with
        | nil => cases e
        | cons b as =>
          cases t with
          | cons r t =>
            cases t with
            | cons r2 t =>
              injection e with e1 e2
              injection e2 with e2 e3
              exact ⟨b :: a :: as, _, by rw [e1, e2, e3] <;> rfl, .cons r2 (.cons r t), List.Perm.swap _ _ _⟩
    | trans _ _ ih1 ih2 =>
      intro as ps e t
      obtain ⟨bs, qs, h1, h2, h3⟩ := ih2 as ps e t
      obtain ⟨cs, rs, k1, k2, k3⟩ := ih1 bs qs h1 h2
      exact ⟨cs, rs, k1, k2, k3.trans h3⟩
  exact key pm as ps rfl h
theorem TupsAt.drop {H : Hp} : ∀ {as : List Addr} {ps : List (Int × Int)} (k : Nat), TupsAt H as ps → TupsAt H (as.drop k) (ps.drop k)
  | _, _, 0, h => h
  | _, _, _ + 1, .nil => .nil
  | _, _, k + 1, .cons _ t => TupsAt.drop k t
theorem TupsAt.take {H : Hp} : ∀ {as : List Addr} {ps : List (Int × Int)} (k : Nat), TupsAt H as ps → TupsAt H (as.take k) (ps.take k)
  | _, _, 0, _ => .nil
  | _, _, _ + 1, .nil => .nil
  | _, _, k + 1, .cons r t => .cons r (TupsAt.take k t)
theorem TupsAt.mem {H : Hp} {as : List Addr} {ps : List (Int × Int)} (h : TupsAt H as ps) {a : Addr} (ha : a ∈ as) : ∃ p ∈ ps, H a = some (.tup [.int p.1, .int p.2]) := by
  obtain ⟨i, hi⟩ := List.getElem?_of_mem ha
  obtain ⟨p, h1, h2⟩ := h.at_ hi
  exact ⟨p, List.mem_of_getElem? h1, h2⟩
theorem cut_from (xs : List V) (k : Nat) : cutV xs (some (k : Int)) none = xs.drop k := by
  unfold cutV
  rw [HT.sIx_nat, HT.sIx_none]
  by_cases h : k ≤ xs.length
  · rw [Nat.min_eq_left h]
    exact List.take_of_length_le (by rw [List.length_drop]; exact Nat.le_refl _)
  · rw [Nat.min_eq_right (by omega), List.drop_eq_nil_of_le (Nat.le_refl _), List.drop_eq_nil_of_le (by omega)]
    simp
theorem atI_any {xs : List V} {i : Int} (h0 : 0 ≤ i) (h1 : i < xs.length) : ∃ v ∈ xs, atI xs i = some v := by
  obtain ⟨j, rfl⟩ : ∃ j : Nat, i = (j : Int) := ⟨i.toNat, by omega⟩
  have hj : j < xs.length := by omega
  exact ⟨xs[j], List.getElem_mem hj, atI_nat (List.getElem?_eq_getElem hj)⟩
theorem Ties.bound {n : Nat} {ps : List (Int × Int)} (h : Ties n ps) {p : Int × Int} (hp : p ∈ ps) : 0 ≤ p.1 ∧ p.1 < n ∧ 0 ≤ p.2 ∧ p.2 < n := by
  have := h.rng p hp
  omega
end DR

set_option Elab.async false
set_option linter.all false
set_option maxRecDepth 100000
set_option maxHeartbeats 4000000
namespace DR
open PySem PySem.Spec PyProof.Rows L2
/-! ### pairs looked up in a list, in a dict -/
def tiedD (ps : List (Int × Int)) : List (List Key × V) := ps.map fun p => ([Sum.inl p.1, Sum.inl p.2], V.bl true)
theorem valV_tied (ps : List (Int × Int)) (a b : Int) : valV (tiedD ps) [Sum.inl a, Sum.inl b] = if (a, b) ∈ ps then some (.bl true) else none := by
  induction ps with
  | nil => rfl
  | cons q r ih =>
    unfold tiedD at ih ⊢
    rw [List.map_cons]
    by_cases e : q = (a, b)
    · subst e
      rw [valV_pos rfl, if_pos List.mem_cons_self]
    · rw [valV_neg, ih]
      · by_cases m : (a, b) ∈ r
        · rw [if_pos m, if_pos (List.mem_cons_of_mem _ m)]
        · rw [if_neg m, if_neg (fun z => (List.mem_cons.mp z).elim (fun z => e z.symm) m)]
      · intro z
        injection z with z1 z2
        injection z2 with z2 _
        exact e (Prod.ext (Sum.inl.inj z1) (Sum.inl.inj z2))
theorem putK_tied {ps : List (Int × Int)} {p : Int × Int} (h : p ∉ ps) : putK (tiedD ps) [Sum.inl p.1, Sum.inl p.2] (.bl true) = tiedD (ps ++ [p]) := by
  have hv : valV (tiedD ps) [Sum.inl p.1, Sum.inl p.2] = none := by
    rw [valV_tied, if_neg h]
  rw [putK_new _ hv]
  simp [tiedD]
def pd (p : Int × Int) : PyData := .tuple [.int p.1, .int p.2]
theorem pd_eqv (p q : Int × Int) : PyData.eqv (pd p) (pd q) = decide (p = q) := by
  rw [Bool.eq_iff_iff]
  simp [pd, PyData.eqv, PyData.eqvAll, Prod.ext_iff]
theorem pd_lay (p : Int × Int) : (pd p).canLay0 = true := by simp [pd, PyData.canLay0, PyData.canLayAll0]
theorem pd_depth (p : Int × Int) : (pd p).depth = 1 := by simp [pd, PyData.depth, PyData.depthAll]
theorem pds_lay : ∀ ps : List (Int × Int), PyData.canLayAll0 (ps.map pd) = true
  | [] => by simp [PyData.canLayAll0]
  | p :: ps => by simp [PyData.canLayAll0, pd_lay p, pds_lay ps]
theorem pds_depth : ∀ ps : List (Int × Int), PyData.depthAll (ps.map pd) ≤ 1
  | [] => by simp [PyData.depthAll]
  | p :: ps => by
    have := pds_depth ps
    simp [PyData.depthAll, pd_depth p, this]
theorem pd_shaped (p : Int × Int) : SeqAt.shaped (pd p) = true := by simp [SeqAt.shaped, pd_lay, pd_depth]
theorem pds_shaped (ps : List (Int × Int)) : SeqAt.shaped (.list (ps.map pd)) = true := by
  have := pds_depth ps
  simp [SeqAt.shaped, PyData.canLay0, pds_lay, PyData.depth]
  omega
theorem pd_dp {K : PySem.W.Frag} {H : Hp} {t : Addr} {p : Int × Int} (e : H t = some (.tup [.int p.1, .int p.2])) : Dp K H (.ref t) (pd p) := .tup (SqT.of e) (.cons (.int _) (.cons (.int _) .nil))
theorem pds_dp {K : PySem.W.Frag} {H : Hp} : ∀ {as : List Addr} {ps : List (Int × Int)}, TupsAt H as ps → DpAll K H (as.map V.ref) (ps.map pd)
  | _, _, .nil => .nil
  | _, _, .cons r t => .cons (pd_dp r) (pds_dp t)
theorem PairsAt.dp {K : PySem.W.Frag} {H : Hp} {l : Addr} {ps : List (Int × Int)} (h : PairsAt H l ps) : Dp K H (.ref l) (.list (ps.map pd)) := by
  obtain ⟨as, e, t⟩ := h
  exact .lst (SqL.of e) (pds_dp t)
theorem pds_any (ps : List (Int × Int)) (p : Int × Int) : (ps.map pd).any (fun z => PyData.eqv z (pd p)) = decide (p ∈ ps) := by
  induction ps with
  | nil => rfl
  | cons q r ih =>
    rw [List.map_cons, List.any_cons, ih, pd_eqv]
    by_cases e : q = p
    · subst e
      simp
    · have e' : p ≠ q := fun z => e z.symm
      by_cases m : p ∈ r
      · simp [e, m]
      · simp [e, e', m]
theorem pds_eqv (ps qs : List (Int × Int)) : PyData.eqv (.list (ps.map pd)) (.list (qs.map pd)) = decide (ps = qs) := by
  have key : ∀ ps qs : List (Int × Int), PyData.eqvAll (ps.map pd) (qs.map pd) = decide (ps = qs) := by
    intro ps
    induction ps with
    | nil =>
      intro qs
      cases qs <;> simp [PyData.eqvAll]
    | cons p ps ih =>
      intro qs
      cases qs with
      | nil => simp [PyData.eqvAll]
      | cons q qs =>
        rw [List.map_cons, List.map_cons]
        rw [Bool.eq_iff_iff]
        simp [PyData.eqvAll, ih, pd_eqv]
  rw [← key ps qs]
  simp [PyData.eqv]
/-- a list or a dict of ties -/
def Known (H : Hp) (k : Addr) (ps : List (Int × Int)) : Prop := PairsAt H k ps ∨ H k = some (.dT (tiedD ps))
theorem Known.same {H H' : Hp} {k : Addr} {ps : List (Int × Int)} (h : Known H k ps) (s : Same H H') : Known H' k ps := by
  rcases h with h | h
  · exact .inl (h.same s)
  · exact .inr (s _ _ h)
section
variable {X : Cx}
def rInKn (neg : Bool) : R2 := fun x y H Q => ∃ (t k : Addr) (p : Int × Int) (ps : List (Int × Int)), x = .ref t ∧ y = .ref k ∧ H t = some (.tup [.int p.1, .int p.2]) ∧ Known H k ps ∧ Q (.bl (if neg then !decide (p ∈ ps) else decide (p ∈ ps))) H
theorem op_inKn (hu : X.A.units + 65 < cLine) : OpR X (compareOp .In) (rInKn false) := by
  intro pins s σ H x y v u Q I rx ry h
  obtain ⟨t, k, p, ps, rfl, rfl, ht, hk, q⟩ := h
  rcases hk with hk | hk
  · refine op_inD hu pins s σ H _ _ v u Q I rx ry ⟨pd p, ps.map pd, pd_dp ht, hk.dp, pd_shaped p, pds_shaped ps, ?_⟩
    rw [pds_any]
    exact q
  · cases ry
    refine d_in (by omega) I (DGet.t (k := [Sum.inl p.1, Sum.inl p.2]) hk ht) rx fun s' I' => ⟨.bl _, H, I', rfl, ?_⟩
    rw [valV_tied]
    by_cases m : (p.1, p.2) ∈ ps
    · rw [if_pos m]
      have e : decide (p ∈ ps) = true := decide_eq_true m
      simpa [e] using q
    · rw [if_neg m]
      have e : decide (p ∈ ps) = false := decide_eq_false m
      simpa [e] using q
theorem op_notInKn (hu : X.A.units + 65 < cLine) : OpR X (compareOp .NotIn) (rInKn true) := by
  intro pins s σ H x y v u Q I rx ry h
  obtain ⟨t, k, p, ps, rfl, rfl, ht, hk, q⟩ := h
  rcases hk with hk | hk
  · refine op_notInD hu pins s σ H _ _ v u Q I rx ry ⟨pd p, ps.map pd, pd_dp ht, hk.dp, pd_shaped p, pds_shaped ps, ?_⟩
    rw [pds_any]
    exact q
  · cases ry
    refine d_notIn (by omega) I (DGet.t (k := [Sum.inl p.1, Sum.inl p.2]) hk ht) rx fun s' I' => ⟨.bl _, H, I', rfl, ?_⟩
    rw [valV_tied]
    by_cases m : (p.1, p.2) ∈ ps
    · rw [if_pos m]
      have e : decide (p ∈ ps) = true := decide_eq_true m
      simpa [e] using q
    · rw [if_neg m]
      have e : decide (p ∈ ps) = false := decide_eq_false m
      simpa [e] using q
end
end DR

set_option Elab.async false
set_option linter.all false
set_option maxRecDepth 100000
set_option maxHeartbeats 4000000
namespace DR
open PySem PySem.Spec PyProof.Rows L2
def top (i : Nat) : Stmt := PySem.Challenge.pw_denseround_k18_texts_refused.main.body.getD i (.Pass ⟨0, 0, 0, 0⟩)
abbrev s__wall : Stmt := top 0
abbrev s_BadYard_init : Stmt := inClass (top 3) 0
abbrev s_BadText_init : Stmt := inClass (top 6) 0
abbrev s_check_yard : Stmt := top 9
abbrev s_Yard_init : Stmt := inClass (top 10) 0
abbrev s_Yard_many : Stmt := inClass (top 10) 1
abbrev s_Yard_ties : Stmt := inClass (top 10) 2
abbrev s_Yard_is_tied : Stmt := inClass (top 10) 3
abbrev s_Yard_degree : Stmt := inClass (top 10) 4
abbrev s_is_number : Stmt := top 13
abbrev s_numbers_of : Stmt := top 14
abbrev s_read : Stmt := top 15
abbrev s__law_dice : Stmt := top 17
abbrev s__law_off : Stmt := top 18
abbrev s__law_alike : Stmt := top 19
abbrev s__law_pairs : Stmt := top 20
abbrev s__law_mixed : Stmt := top 21
abbrev s__law_yard : Stmt := top 22
abbrev s__law_is : Stmt := top 23
abbrev s__law_text : Stmt := top 24
abbrev s__law_refused : Stmt := top 25
abbrev s_law : Stmt := top 26
end DR
namespace DR
open PySem
abbrev paperN : Str := "none"
end DR
namespace DR
open PySem
abbrev refN : Str := "none"
end DR
namespace DR
open PySem
abbrev wayN : Str := "_law_way"
end DR

set_option Elab.async false
set_option linter.all false
set_option maxRecDepth 100000
set_option maxHeartbeats 4000000
namespace DR
open PySem PySem.Spec PyProof.Rows L2
section
variable {X : Cx} {a b c d : Expr} {ta tb tc td : TE} {pos : Pos}
/-- a op b op c op d -/
def tChain3 (r r' r'' : R2) (ta tb tc td : TE) : TT := fun σ H Q => ta σ H fun x H1 => tb σ H1 fun y H2 => r x y H2 fun z H3 => ∃ k, z = .bl k ∧ if k = true then (tc σ H3 fun u H4 => r' y u H4 fun z2 H5 => ∃ k2, z2 = .bl k2 ∧
  if k2 = true then (td σ H5 fun v H6 => r'' u v H6 fun z3 H7 => ∃ k3, z3 = .bl k3 ∧ Q k3 H7) else Q false H5) else Q false H3
theorem pt_chain3 {op op' op'' : CmpOp} {r r' r'' : R2} (ho : OpR X (compareOp op) r) (ho' : OpR X (compareOp op') r') (ho'' : OpR X (compareOp op'') r'') (ha : PE X a ta) (hb : PE X b tb) (hc : PE X c tc) (hd : PE X d td)
    (hm : lastMarks [op, op', op''] [b, c, d] = false := by with_unfolding_all rfl) : PT X (.Compare a [op, op', op''] [b, c, d] pos) (tChain3 r r' r'' ta tb tc td) := by
  refine ⟨fun pins s σ H Q I h => ?_⟩
  refine isTrue_chain (thn (ha.run pins s σ H _ I h) fun v s1 ⟨x, H1, I1, r1, q1⟩ => test_link (thn (hb.run pins s1 σ H1 _ I1 q1) fun u s2 ⟨y, H2, I2, r2, q2⟩ =>
    thn (ho pins s2 σ H2 x y v u _ I2 r1 r2 q2) fun e1 s3 ⟨z, H3, I3, r3, k, e, q3⟩ => ?_)) hm
  subst e
  cases r3
  refine wpAny_truthy_bool ?_
  cases k with
  | false => exact ite_ff ⟨H3, I3, q3⟩
  | true =>
    refine ite_tt (test_link (thn (hc.run pins s3 σ H3 _ I3 q3) fun u' s4 ⟨y', H4, I4, r4, q4⟩ => thn (ho' pins s4 σ H4 y y' u u' _ I4 r2 r4 q4) fun e2 s5 ⟨z2, H5, I5, r5, k2, eq2, q5⟩ => ?_))
    subst eq2
    cases r5
    refine wpAny_truthy_bool ?_
    cases k2 with
    | false => exact ite_ff ⟨H5, I5, q5⟩
    | true =>
      refine ite_tt (test_last (thn (hd.run pins s5 σ H5 _ I5 q5) fun w' s6 ⟨z', H6, I6, r6, q6⟩ => thn (ho'' pins s6 σ H6 y' z' u' w' _ I6 r4 r6 q6) fun d' s7 ⟨z3, H7, I7, r7, k3, e3, q7⟩ => ?_))
      subst e3
      cases r7
      exact wpAny_truthy_bool ⟨H7, I7, q7⟩
end
section
variable {P : Program} {w : World} {K : PySem.W.Frag} {mg : Str → Option Value} {base : Heap}
/-! ### check_yard of ties that can be -/
def spCheck : Sp := fun vs H Q _ => ∃ (n : Nat) (tl : Addr) (ps : List (Int × Int)), vs = [.int (n : Int), .ref tl] ∧ PairsAt H tl ps ∧ Ties n ps ∧ 1 ≤ n ∧ n ≤ 30 ∧ ∀ H', Same H H' → Q .non H'
abbrev nCheck : List Str := ["many", "ties", "ahead", "at", "one", "other"]
theorem scCheck : FnScope nCheck ["many", "ties"] (defScope s_check_yard) := ⟨rfl, rfl, rfl, by decide +kernel, rfl, by decide +kernel, by decide +kernel⟩
theorem has_check {t : Tok} (D : IsDef K mg "check_yard" s_check_yard) (B : Blt mg) (gM : mg "MOST_PLACES" = some (.int 30 t)) : Has P w K mg base 1 "check_yard" ["many", "ties"] spCheck := by
  refine has_of D scCheck (fun _ _ _ _ _ _ us hl => match us, hl with | [_, _], _ => rfl) (fun vs H Q E h => ?_) (fun f cdv A outer s H vs Q E hr h => ?_)
  · obtain ⟨n, tl, ps, rfl, _⟩ := h
    rfl
  · obtain ⟨n, tl, ps, rfl, ⟨as, el, ta⟩, ti, n1, n30, q⟩ := h
    have hu : ∀ {B : Around}, B.units = (A.deeper (envOfC "check_yard" (defScope s_check_yard) s.heap.objs.size f cdv)).units → B.units + 2 < cLine := fun e => by
      have := hr.units
      omega
    refine ⟨_, pss_cons (ps_if (pt_not (pt_chain op_le op_le pe_int (pv 0) (pe_glob (v := .int 30) rfl gM ⟨_, rfl⟩))) pss_never pss_nil)
      (pss_cons (ps_set (i := 2) scCheck.nd rfl (.inl rfl) (pe_callTy0 cr_setNew (by rfl) B.set (by decide +kernel)))
      (pss_one (ps_for PassesOwn.never rfl (pi_enum (by rfl) B.enumerate (pa_cons (pv 1) pa_nil)) (pg_tup rfl (pgs_cons (pg_name (i := 3) scCheck.nd rfl (.inl rfl)) (pgs_cons (pg_tup rfl (pgs_cons (pg_name (i := 4) scCheck.nd rfl (.inl rfl)) (pgs_cons (pg_name (i := 5) scCheck.nd rfl (.inl rfl)) pgs_nil))) pgs_nil)))
        (pss_cons (ps_if (pt_not (pt_chain3 op_le op_lt op_lt pe_int (pv 4) (pv 5) (pv 0))) pss_never pss_nil)
        (pss_cons (ps_if (pt_cmpR (or_gin (hu_of hr)) (pe_tup (pa_cons (pv 4) (pa_cons (pv 5) pa_nil))) (pv 2) (by with_unfolding_all rfl)) pss_never pss_nil)
        (pss_one (ps_expr (pe_gadd (hu rfl) (pv 2) (pa_cons (pe_tup (pa_cons (pv 4) (pa_cons (pv 5) pa_nil))) pa_nil))))))))), ?_⟩
    have hp900 := ti.len900 n30
    refine ⟨_, rfl, _, _, rfl, rfl, _, rfl, iteD (by omega) ?_⟩
    refine ⟨_, _, rfl, rfl, _, rfl, iteNS (show (n : Int) ≤ 30 by omega) ?_⟩
    refine ⟨rfl, fun S nS => ?_⟩
    have s0 : Same H (upd H S (SetGO P w S [])) := same_new nS
    refine ⟨_, rfl, tl, _, rfl, SqL.of (s0 _ _ el), ?_⟩
    refine ⟨fun i m σ H2 => ∃ (L : List (Addr × List Int)) (x3 x4 x5 : Option V), σ = [some (.int (n : Int)), some (.ref tl), some (.ref S), x3, x4, x5] ∧ i + m = ps.length ∧ Kp S H H2 ∧ H2 S = some (SetGO P w S L) ∧
        (∀ q ∈ L, H2 q.1 = some (.tup (q.2.map V.int))) ∧ (∀ k ∈ L.map (·.2), ∃ p ∈ ps.take i, k = [p.1, p.2]) ∧ L.length ≤ i,
      ⟨ps.length, [], none, none, none, rfl, by omega, Kp.put _ _ _, upd_same, (by intro q hq; cases hq), (by intro q hq; cases hq), Nat.le_refl _⟩, ?_⟩
    rintro i m σ H2 ⟨L, x3, x4, x5, rfl, em, kp, eS, hL, hk, hlen⟩
    have s2 : Same H H2 := fun c o e => kp c o (ne_of_none e nS) e
    have hl := ta.length
    by_cases hi : i < ps.length
    · have ha : as[i]? = some as[i] := List.getElem?_eq_getElem (by omega)
      obtain ⟨p, hp, ea⟩ := ta.at_ ha
      generalize as[i] = a at ha ea
      have hpm := List.mem_of_getElem? hp
      have pr := ti.rng p hpm
      refine .inr ⟨⟨_, _, SqL.of (s2 _ _ el), by rw [List.getElem?_map, ha]; rfl⟩, fun σ' H' => ∃ (L : List (Addr × List Int)) (x3 x4 x5 : Option V), σ' = [some (.int (n : Int)), some (.ref tl), some (.ref S), x3, x4, x5] ∧ Kp S H H' ∧ H' S = some (SetGO P w S L) ∧
        (∀ q ∈ L, H' q.1 = some (.tup (q.2.map V.int))) ∧ (∀ k ∈ L.map (·.2), ∃ p ∈ ps.take (i + 1), k = [p.1, p.2]) ∧ L.length ≤ i + 1, fun σ' H' ⟨L, y3, y4, y5, h1, h2, h3, h4, h5, h6⟩ => ⟨m - 1, by omega, L, y3, y4, y5, h1, by omega, h2, h3, h4, h5, h6⟩, ?_⟩
      rintro v H' ⟨T, x, rfl, nT, rfl, fx⟩
      have ex : x = .ref a := by
        have z := fx _ (SqL.of (s2 _ _ el))
        rw [List.getElem?_map, ha] at z
        exact (Option.some.inj z).symm
      subst ex
      have s3 : Same H2 (upd H2 T (.tup [.int (i : Nat), .ref a])) := same_new nT
      refine ⟨T, _, rfl, SqT.of upd_same, rfl, _, _, rfl, _, _, rfl, a, _, rfl, SqT.of (s3 _ _ (s2 _ _ ea)), rfl, _, _, rfl, _, _, rfl, rfl, rfl, ?_⟩
      -- 0 <= one < other < many
      refine ⟨_, rfl, _, _, rfl, rfl, _, rfl, iteD pr.1 ?_⟩
      refine ⟨_, rfl, _, _, rfl, rfl, _, rfl, iteD pr.2.1 ?_⟩
      refine ⟨_, rfl, _, _, rfl, rfl, _, rfl, iteNS pr.2.2 ?_⟩
      -- (one, other) in ahead
      generalize upd H2 T (.tup [.int (i : Nat), .ref a]) = H3 at s3
      refine ⟨_, rfl, _, rfl, by show 2 ≤ sizeLine; decide, fun t1 nt1 => ?_⟩
      have s4 : Same H3 (upd H3 t1 (.tup [.int p.1, .int p.2])) := same_new nt1
      have fresh : [p.1, p.2] ∉ L.map (·.2) := fun z => by
        obtain ⟨p', hp', e⟩ := hk _ z
        have e1 : p = p' := by
          injection e with e1 e2
          injection e2 with e2 _
          exact Prod.ext e1 e2
        subst e1
        obtain ⟨j, hj⟩ := List.getElem?_of_mem hp'
        rw [List.getElem?_take] at hj
        split at hj
        · rename_i hji
          have := (List.getElem?_inj (show j < ps.length by omega) ti.nd).mp (hj.trans hp.symm)
          omega
        · cases hj
      refine ⟨_, rfl, t1, S, [p.1, p.2], L, rfl, rfl, s4 _ _ (s3 _ _ eS), fun q hq => SqT.of (s4 _ _ (s3 _ _ (hL q hq))), SqT.of upd_same, _, rfl, ite2 (fun z => absurd (of_decide_eq_true z) fresh) (fun _ => ?_)⟩
      -- ahead.add((one, other))
      have s5 : Same H2 (upd H3 t1 (.tup [.int p.1, .int p.2])) := s3.trans s4
      generalize upd H3 t1 (.tup [.int p.1, .int p.2]) = H4 at s5
      refine ⟨_, rfl, S, L, rfl, s5 _ _ eS, _, rfl, _, rfl, by show 2 ≤ sizeLine; decide, fun t2 nt2 => ?_⟩
      have s6 : Same H4 (upd H4 t2 (.tup [.int p.1, .int p.2])) := same_new nt2
      have s7 := s5.trans s6
      refine ⟨t2, [p.1, p.2], rfl, s7 _ _ eS, fun q hq => SqT.of (s7 _ _ (hL q hq)), SqT.of upd_same, by omega, fun L' _ c2 => ?_⟩
      have pm := c2 fresh
      have tS : ∀ {b xs}, (upd H4 t2 (.tup [.int p.1, .int p.2])) b = some (.tup xs) → b ≠ S := fun {b xs} e => ne_of e (s7 _ _ eS) (by intro z; cases z)
      refine ⟨L', _, _, _, rfl, fun c o nc e => ?_, upd_same, fun q hq => ?_, fun k hk' => ?_, ?_⟩
      · rw [upd_ne nc]
        exact s7 _ _ (kp c o nc e)
      · rcases List.mem_cons.mp (pm.mem_iff.mp hq) with e | e
        · subst e
          rw [upd_ne (tS (b := t2) upd_same)]
          exact upd_same
        · have z := s7 _ _ (hL q e)
          rw [upd_ne (tS z)]
          exact z
      · rcases List.mem_cons.mp ((pm.map (·.2)).mem_iff.mp hk') with e | e
        · exact ⟨p, by rw [List.take_succ, hp]; simp, e⟩
        · obtain ⟨p', h1, h2⟩ := hk k e
          exact ⟨p', by rw [List.take_succ]; exact List.mem_append_left _ h1, h2⟩
      · rw [pm.length_eq, List.length_cons]
        omega
    · exact .inl ⟨⟨_, SqL.of (s2 _ _ el), by rw [List.length_map]; omega⟩, q H2 s2⟩
end
end DR

set_option Elab.async false
set_option linter.all false
set_option maxRecDepth 100000
set_option maxHeartbeats 4000000
namespace DR
open PySem PySem.Spec PyProof.Rows L2
/-! ### what a Yard holds -/
def degD (n : Nat) (c : Int → Int) : List (Key × V) := (List.range n).map fun i : Nat => ((Sum.inl (i : Int) : Key), V.int (c i))
/-- how often x stands in the ties -/
def cnt (ps : List (Int × Int)) (x : Int) : Int := (ps.map fun p => (if p.1 = x then 1 else 0) + (if p.2 = x then 1 else 0)).sum
theorem cnt_snoc (ps : List (Int × Int)) (p : Int × Int) (x : Int) : cnt (ps ++ [p]) x = cnt ps x + (if p.1 = x then 1 else 0) + (if p.2 = x then 1 else 0) := by
  simp [cnt]
  omega
theorem valV_deg (n : Nat) (c : Int → Int) {x : Int} (h0 : 0 ≤ x) (h1 : x < n) : valV (degD n c) (Sum.inl x : Key) = some (.int (c x)) := by
  have key : ∀ l : List Nat, x.toNat ∈ l → valV (l.map fun i : Nat => ((Sum.inl (i : Int) : Key), V.int (c i))) (Sum.inl x : Key) = some (.int (c x)) := by
    intro l
    induction l with
    | nil => intro h; cases h
    | cons a r ih =>
      intro h
      by_cases e : (Sum.inl (a : Int) : Key) = Sum.inl x
      · have e' : (a : Int) = x := Sum.inl.inj e
        rw [List.map_cons, valV_pos e]
        rw [e']
      · rw [List.map_cons, valV_neg e]
        refine ih ?_
        rcases List.mem_cons.mp h with z | z
        · exact absurd (by rw [← z]; congr 1; omega) e
        · exact z
  exact key _ (List.mem_range.mpr (by omega))
theorem putK_deg (n : Nat) (c : Int → Int) {x : Int} (v : Int) (h0 : 0 ≤ x) (h1 : x < n) : putK (degD n c) (Sum.inl x : Key) (.int v) = degD n fun y => if y = x then v else c y := by
  have ha : (degD n c).any (fun kv => decide (kv.1 = (Sum.inl x : Key))) = true := by
    rw [valV_any, valV_deg n c h0 h1] <;> rfl
  unfold putK
  rw [if_pos ha]
  unfold degD
  rw [List.map_map]
  refine List.map_congr_left fun i _ => ?_
  by_cases e : (i : Int) = x
  · simp [e]
  · simp [e]
def yflds (n : Nat) (l td dg : Addr) : List (Str × V) := [("_many", .int (n : Int)), ("_ties", .ref l), ("_tied", .ref td), ("_degrees", .ref dg)]
theorem putF_new (f : Str) (v : V) : ∀ fs : List (Str × V), (∀ p ∈ fs, ¬ p.1 = f) → putF f v fs = fs ++ [(f, v)]
  | [], _ => rfl
  | (g, x) :: r, h => by
    show (if g = f then _ else (g, x) :: putF f v r) = _
    rw [if_neg (h _ List.mem_cons_self), putF_new f v r fun p hp => h p (List.mem_cons_of_mem _ hp)]
    rfl
theorem fl1 (n : Nat) : putF "_many" (.int (n : Int)) [] = [(("_many" : Str), V.int (n : Int))] := rfl
theorem fl2 (n : Nat) (l : Addr) : putF "_ties" (.ref l) [(("_many" : Str), V.int (n : Int))] = [(("_many" : Str), V.int (n : Int)), ("_ties", .ref l)] := putF_new _ _ _ (by
  intro p hp
  simp only [List.mem_cons, List.not_mem_nil, or_false] at hp
  subst hp
  show ¬ (("_many" : Str) = "_ties")
  decide +kernel)
theorem fl3 (n : Nat) (l td : Addr) : putF "_tied" (.ref td) [(("_many" : Str), V.int (n : Int)), ("_ties", .ref l)] = [(("_many" : Str), V.int (n : Int)), ("_ties", .ref l), ("_tied", .ref td)] := putF_new _ _ _ (by
  intro p hp
  simp only [List.mem_cons, List.not_mem_nil, or_false] at hp
  rcases hp with e | e <;> subst e
  · show ¬ (("_many" : Str) = "_tied")
    decide +kernel
  · show ¬ (("_ties" : Str) = "_tied")
    decide +kernel)
theorem fl4 (n : Nat) (l td dg : Addr) : putF "_degrees" (.ref dg) [(("_many" : Str), V.int (n : Int)), ("_ties", .ref l), ("_tied", .ref td)] = yflds n l td dg := putF_new _ _ _ (by
  intro p hp
  simp only [List.mem_cons, List.not_mem_nil, or_false] at hp
  rcases hp with e | e | e <;> subst e
  · show ¬ (("_many" : Str) = "_degrees")
    decide +kernel
  · show ¬ (("_ties" : Str) = "_degrees")
    decide +kernel
  · show ¬ (("_tied" : Str) = "_degrees")
    decide +kernel)
theorem lk_pos {f : Str} {v : V} {fs : List (Str × V)} : ((f, v) :: fs).lookup f = some v := by simp [List.lookup]
theorem lk_neg {f g : Str} {v : V} {fs : List (Str × V)} (h : ¬ g = f) : ((f, v) :: fs).lookup g = fs.lookup g := by
  have e : (g == f) = false := by simpa using h
  simp [List.lookup, e]
theorem look_yM (n : Nat) (l td dg : Addr) : (yflds n l td dg).lookup ("_many" : Str) = some (.int (n : Int)) := lk_pos
theorem look_yT (n : Nat) (l td dg : Addr) : (yflds n l td dg).lookup ("_ties" : Str) = some (.ref l) := (lk_neg (by decide +kernel)).trans lk_pos
theorem look_yD (n : Nat) (l td dg : Addr) : (yflds n l td dg).lookup ("_tied" : Str) = some (.ref td) := (lk_neg (by decide +kernel)).trans ((lk_neg (by decide +kernel)).trans lk_pos)
theorem look_yG (n : Nat) (l td dg : Addr) : (yflds n l td dg).lookup ("_degrees" : Str) = some (.ref dg) := (lk_neg (by decide +kernel)).trans ((lk_neg (by decide +kernel)).trans ((lk_neg (by decide +kernel)).trans lk_pos))
theorem look_no (n : Nat) (l td dg : Addr) {m : Str} (h1 : ¬ m = "_many") (h2 : ¬ m = "_ties") (h3 : ¬ m = "_tied") (h4 : ¬ m = "_degrees") : (yflds n l td dg).lookup m = none := (lk_neg h1).trans ((lk_neg h2).trans ((lk_neg h3).trans ((lk_neg h4).trans rfl)))
theorem _root_.L2.DGet.k' {H : Hp} {a : Addr} {kvs : List (Key × V)} {k : Int} {v : V} (e : H a = some (.dK kvs)) (h : valV kvs (Sum.inl k : Key) = some v) : DGet H a (.int k) (some v) := h ▸ DGet.k (k := Sum.inl k) e
/-- a Yard stands at y -/
def YardAt (C : Addr) (H : Hp) (y : Addr) (n : Nat) (ps : List (Int × Int)) : Prop := ∃ dx l td dg, H y = some (.ins C dx (yflds n l td dg)) ∧ PairsAt H l ps ∧ H td = some (.dT (tiedD ps)) ∧ H dg = some (.dK (degD n (cnt ps)))
theorem YardAt.same {C : Addr} {H H' : Hp} {y : Addr} {n : Nat} {ps : List (Int × Int)} (h : YardAt C H y n ps) (s : Same H H') : YardAt C H' y n ps := by
  obtain ⟨dx, l, td, dg, h1, h2, h3, h4⟩ := h
  exact ⟨dx, l, td, dg, s _ _ h1, h2.same s, s _ _ h3, s _ _ h4⟩
/-- what the text says of the class -/
structure YTxt (K : PySem.W.Frag) (mg : Str → Option Value) (C : Addr) : Prop where
  cl : Cls K C
  nM : NoAttr K C "_many"
  nT : NoAttr K C "_ties"
  nD : NoAttr K C "_tied"
  nG : NoAttr K C "_degrees"
  mgC : mg "Yard" = some (.ref C)
section
variable {P : Program} {w : World} {K : PySem.W.Frag} {mg : Str → Option Value} {base : Heap} {C : Addr}
def spInit (C : Addr) : Sp := fun vs H Q _ => ∃ (y dx tl : Addr) (n : Nat) (ps : List (Int × Int)), vs = [.ref y, .int (n : Int), .ref tl] ∧ H y = some (.ins C dx []) ∧ PairsAt H tl ps ∧ Ties n ps ∧ 1 ≤ n ∧ n ≤ 30 ∧
  ∀ H', Kp y H H' → YardAt C H' y n ps → Q .non H'
/-- the yard, its own list of ties at l -/
def YardL (C : Addr) (H : Hp) (y : Addr) (n : Nat) (ps : List (Int × Int)) (l : Addr) : Prop := ∃ dx td dg, H y = some (.ins C dx (yflds n l td dg)) ∧ PairsAt H l ps ∧ H td = some (.dT (tiedD ps)) ∧ H dg = some (.dK (degD n (cnt ps)))
def spInitF (C : Addr) : Sp := fun vs H Q _ => ∃ (y dx tl : Addr) (n : Nat) (ps : List (Int × Int)), vs = [.ref y, .int (n : Int), .ref tl] ∧ H y = some (.ins C dx []) ∧ PairsAt H tl ps ∧ Ties n ps ∧ 1 ≤ n ∧ n ≤ 30 ∧
  ∀ H' l, Kp y H H' → H l = none → YardL C H' y n ps l → Q .non H'
abbrev nInit : List Str := ["self", "many", "ties", "one", "other", "place"]
theorem scInit : FnScope nInit ["self", "many", "ties"] (defScope s_Yard_init) := ⟨rfl, rfl, rfl, by decide +kernel, rfl, by decide +kernel, by decide +kernel⟩
theorem has_initF (D : IsMeth K C "__init__" "Yard.__init__" s_Yard_init) (B : Blt mg) (T : YTxt K mg C) (CH : Has P w K mg base 1 "check_yard" ["many", "ties"] spCheck) : HasM P w K mg base C 2 "__init__" ["self", "many", "ties"] (spInitF C) := by
  refine hasM_of D scInit (fun _ _ _ _ _ _ us hl => match us, hl with | [_, _, _], _ => rfl) (fun vs H Q E h => ?_) (fun f cdv A outer s H vs Q E hr h => ?_)
  · obtain ⟨y, dx, tl, n, ps, rfl, _⟩ := h
    rfl
  · obtain ⟨y, dx, tl, n, ps, rfl, hy, pa, ti, n1, n30, q⟩ := h
    have hu := hu_of hr
    refine ⟨_, pss_cons (ps_expr (pe_has CH hr (by decide) (by rfl) (pa_cons (pv 1) (pa_cons (pv 2) pa_nil))))
      (pss_cons (ps_fld (pv 0) (pv 1) rfl)
      (pss_cons (ps_fld (pv 0) (pe_callTy call_list_of (by rfl) B.list (by decide +kernel) (pa_cons (pv 2) pa_nil)) rfl)
      (C8.pss_cut (ps_fld (pv 0) (pe_dg (own := [("one", 3), ("other", 4)]) (e0 := .dT []) (tt := tYes) (g := gTup K 2 (gCons (gName 3) (gCons (gName 4) gNil))) (.inr rfl) hr.units0 rfl scInit.nd (pi_list (pv 2)) (blkOk_by (N := nInit) (sc := defScope s_Yard_init) (by decide +kernel))
          (fun _ _ _ _ _ => by exact (pg_tup rfl (pgs_cons (by exact (pg_name (i := 3) scInit.nd rfl (.inl rfl))) (pgs_cons (by exact (pg_name (i := 4) scInit.nd rfl (.inl rfl))) pgs_nil)))) (fun _ _ _ _ _ => pts_nil) (fun _ _ _ _ _ => pe_tup (pa_cons (pv 3) (pa_cons (pv 4) pa_nil))) (fun _ _ _ _ _ => pe_bl)) rfl)
      (C8.pss_cut (ps_fld (pv 0) (pe_dg (own := [("place", 5)]) (e0 := .dK []) (tt := tYes) (.inl rfl) hr.units0 rfl scInit.nd (pi_range1 (by rfl) B.range (pa_cons (pv 1) pa_nil)) (blkOk_by (N := nInit) (sc := defScope s_Yard_init) (by decide +kernel))
          (fun _ _ _ _ _ => pg_name (i := 5) scInit.nd rfl (.inl rfl)) (fun _ _ _ _ _ => pts_nil) (fun _ _ _ _ _ => pv 5) (fun _ _ _ _ _ => pe_int)) rfl)
      (pss_one (ps_for PassesOwn.never rfl (pi_list (pv 2)) (pg_tup rfl (pgs_cons (pg_name (i := 3) scInit.nd rfl (.inl rfl)) (pgs_cons (pg_name (i := 4) scInit.nd rfl (.inl rfl)) pgs_nil)))
        (pss_cons (ps_daug hu (pe_fld (pv 0) rfl) (pv 3) pe_int in_add (fun _ _ _ => rfl)) (pss_one (ps_daug hu (pe_fld (pv 0) rfl) (pv 4) pe_int in_add (fun _ _ _ => rfl)))))))))), ?_⟩
    obtain ⟨as, el, ta⟩ := id pa
    have hp900 := ti.len900 n30
    have ty : ∀ {H' : Hp} {b : Addr} {xs : List V}, H b = some (.tup xs) → b ≠ y := fun {H' b xs} e => ne_of e hy (by intro z; cases z)
    have ly : tl ≠ y := ne_of el hy (by intro z; cases z)
    refine ⟨_, rfl, _, rfl, n, tl, ps, rfl, pa, ti, n1, n30, fun H1 s1 => ?_⟩
    -- self._many
    refine ⟨_, rfl, _, rfl, y, C, dx, [], rfl, s1 _ _ hy, T.cl, T.nM, (by show 0 < 1000; decide), ?_⟩
    rw [fl1]
    obtain ⟨H2, eH2⟩ : ∃ H2, upd H1 y (.ins C dx [(("_many" : Str), V.int (n : Int))]) = H2 := ⟨_, rfl⟩
    rw [eH2]
    have k2 : Kp y H H2 := fun b o nb e => by
      rw [← eH2, upd_ne nb]
      exact s1 b o e
    have y2 : H2 y = some (.ins C dx [(("_many" : Str), V.int (n : Int))]) := by
      rw [← eH2]
      exact upd_same
    -- self._ties
    refine ⟨_, rfl, tl, _, rfl, .inl (SqL.of (k2 _ _ ly el)), fun l nl => ?_⟩
    have s3 := same_new (o := .lst (as.map V.ref)) nl
    have nlH : H l = none := by
      cases e : H l with
      | none => rfl
      | some o =>
        by_cases c : l = y
        · rw [c, y2] at nl
          cases nl
        · rw [k2 l o c e] at nl
          cases nl
    refine ⟨_, rfl, y, C, dx, _, rfl, s3 _ _ y2, T.cl, T.nT, (by show 1 < 1000; decide), ?_⟩
    rw [fl2]
    have nly : l ≠ y := fun z => by
      rw [z, y2] at nl
      cases nl
    obtain ⟨H3, eH3⟩ : ∃ H3, upd (upd H2 l (.lst (as.map V.ref))) y (.ins C dx [(("_many" : Str), V.int (n : Int)), ("_ties", .ref l)]) = H3 := ⟨_, rfl⟩
    rw [eH3]
    have k3 : Kp y H H3 := fun b o nb e => by
      rw [← eH3, upd_ne nb]
      exact s3 b o (k2 b o nb e)
    have y3 : H3 y = some (.ins C dx [(("_many" : Str), V.int (n : Int)), ("_ties", .ref l)]) := by
      rw [← eH3]
      exact upd_same
    have l3 : H3 l = some (.lst (as.map V.ref)) := by
      rw [← eH3, upd_ne nly, upd_same]
    have ta3 : TupsAt H3 as ps := ta.keep fun b xs e => k3 b _ (ty (H' := H3) e) e
    clear eH3 s3
    -- self._tied
    refine ⟨fun σ H5 => ∃ td, σ = [some (.ref y), some (.int (n : Int)), some (.ref tl), none, none, none] ∧ Kp y H H5 ∧ H5 y = some (.ins C dx [(("_many" : Str), V.int (n : Int)), ("_ties", .ref l), ("_tied", .ref td)]) ∧ H5 l = some (.lst (as.map V.ref)) ∧ TupsAt H5 as ps ∧ H5 td = some (.dT (tiedD ps)), ?_, ?_⟩
    · refine ⟨_, rfl, tl, rfl, ⟨_, SqL.of (k3 _ _ ly el)⟩, fun D nD => ?_⟩
      refine dg_list (K := K) (a := tl) (xs := as.map V.ref) (fun j H4 => Kp D H3 H4 ∧ H4 D = some (.dT (tiedD (ps.take j)))) ⟨Kp.put _ _ _, upd_same⟩ (fun j H4 _ ⟨kp, _⟩ => SqL.of (kp _ _ (ne_of_none (k3 _ _ ly el) nD) (k3 _ _ ly el))) ?_ ?_
      · rintro j x H4 hx ⟨kp, eD⟩
        obtain ⟨a, rfl, ha⟩ := refs_at' hx
        obtain ⟨p, hp, ea⟩ := ta3.at_ ha
        have ea4 := kp _ _ (ne_of_none ea nD) ea
        refine ⟨a, _, rfl, SqT.of ea4, rfl, _, _, rfl, _, _, rfl, rfl, rfl, ?_⟩
        refine ⟨_, rfl, _, rfl, by show 2 ≤ sizeLine; decide, fun t nt => ?_⟩
        have nDt : D ≠ t := ne_of_none eD nt
        have tk : ps.take (j + 1) = ps.take j ++ [p] := by
          rw [List.take_succ, hp] <;> rfl
        have fresh : p ∉ ps.take j := fun z => by
          obtain ⟨i, hi⟩ := List.getElem?_of_mem z
          rw [List.getElem?_take] at hi
          split at hi
          · rename_i hij
            have hjl := (List.getElem?_eq_some_iff.mp hp).1
            have := (List.getElem?_inj (show i < ps.length by omega) ti.nd).mp (hi.trans hp.symm)
            omega
          · cases hi
        refine ⟨_, DPut.t (k := [Sum.inl p.1, Sum.inl p.2]) ((upd_ne nDt).trans eD) upd_same ?_, fun b o nb e => ?_, ?_⟩
        · refine small1000 ?_
          simp [tiedD]
          omega
        · rw [upd_ne nb]
          exact same_new nt b o (kp b o nb e)
        · rw [upd_same, putK_tied fresh, tk]
      · rintro H4 ⟨kp, eD⟩
        rw [List.length_map, ta.length, List.take_length] at eD
        have yD : y ≠ D := ne_of_none y3 nD
        have lD : l ≠ D := ne_of_none l3 nD
        refine ⟨_, rfl, y, C, dx, _, rfl, kp _ _ yD y3, T.cl, T.nD, (by show 2 < 1000; decide), ?_⟩
        rw [fl3]
        refine ⟨D, rfl, fun b o nb e => ?_, upd_same, ?_, ?_, ?_⟩
        · rw [upd_ne nb]
          exact kp _ _ (ne_of_none (k3 b o nb e) nD) (k3 b o nb e)
        · rw [upd_ne nly]
          exact kp _ _ lD l3
        · refine ta3.keep fun b xs e => ?_
          rw [upd_ne (ne_of e y3 (by intro z; cases z))]
          exact kp _ _ (ne_of_none e nD) e
        · rw [upd_ne (Ne.symm yD)]
          exact eD
    · rintro σ H5 ⟨td, rfl, k5, y5, l5, ta5, d5⟩
      have tdy : td ≠ y := ne_of d5 y5 (by intro z; cases z)
      have nly5 : l ≠ y := ne_of l5 y5 (by intro z; cases z)
      -- self._degrees
      refine ⟨fun σ H6 => ∃ dg, σ = [some (.ref y), some (.int (n : Int)), some (.ref tl), none, none, none] ∧ Kp y H H6 ∧ H6 y = some (.ins C dx (yflds n l td dg)) ∧ H6 l = some (.lst (as.map V.ref)) ∧ TupsAt H6 as ps ∧ H6 td = some (.dT (tiedD ps)) ∧ H6 dg = some (.dK (degD n fun _ => 0)) ∧ H dg = none, ?_, ?_⟩
      · refine ⟨_, rfl, (n : Int), rfl, by omega, by omega, fun D nD => ?_⟩
        rw [Int.toNat_natCast]
        refine dg_range (lo := 0) (n := n) (fun j H4 => Kp D H5 H4 ∧ H4 D = some (.dK (degD j fun _ => 0))) ⟨Kp.put _ _ _, upd_same⟩ ?_ ?_
        · rintro j H4 hj ⟨kp, eD⟩
          refine ⟨rfl, _, rfl, _, DPut.k (k := Sum.inl (0 + (j : Int))) eD ?_, kp.trans (Kp.put _ _ _), ?_⟩
          · refine small1000 ?_
            simp [degD]
            omega
          · rw [upd_same, Int.zero_add]
            have e : valV (degD j fun _ => 0) (Sum.inl (j : Int) : Key) = none := by
              have key : ∀ l : List Nat, (∀ i ∈ l, i < j) → valV (l.map fun i : Nat => ((Sum.inl (i : Int) : Key), V.int 0)) (Sum.inl (j : Int) : Key) = none := by
                intro l
                induction l with
                | nil => intro _; rfl
                | cons a r ih =>
                  intro h
                  rw [List.map_cons, valV_neg]
                  · exact ih fun i hi => h i (List.mem_cons_of_mem _ hi)
                  · intro z
                    have := h a List.mem_cons_self
                    have z' : (a : Int) = (j : Int) := Sum.inl.inj z
                    omega
              exact key _ fun i hi => List.mem_range.mp hi
            rw [putK_new _ e]
            unfold degD
            rw [List.range_succ, List.map_append]
            rfl
        · rintro H4 ⟨kp, eD⟩
          have yD : y ≠ D := ne_of_none y5 nD
          refine ⟨_, rfl, y, C, dx, _, rfl, kp _ _ yD y5, T.cl, T.nG, (by show 3 < 1000; decide), ?_⟩
          rw [fl4]
          have nDH : H D = none := by
            cases e : H D with
            | none => rfl
            | some o =>
              rw [k5 D o (Ne.symm yD) e] at nD
              cases nD
          refine ⟨D, rfl, fun b o nb e => ?_, upd_same, ?_, ?_, ?_, ?_, nDH⟩
          · rw [upd_ne nb]
            exact kp _ _ (ne_of_none (k5 b o nb e) nD) (k5 b o nb e)
          · rw [upd_ne nly5]
            exact kp _ _ (ne_of_none l5 nD) l5
          · refine ta5.keep fun b xs e => ?_
            rw [upd_ne (ne_of e y5 (by intro z; cases z))]
            exact kp _ _ (ne_of_none e nD) e
          · rw [upd_ne tdy]
            exact kp _ _ (ne_of_none d5 nD) d5
          · rw [upd_ne (Ne.symm yD)]
            exact eD
      · rintro σ H6 ⟨dg, rfl, k6, y6, l6, ta6, d6, g6, ndg⟩
        have gy : dg ≠ y := ne_of g6 y6 (by intro z; cases z)
        have gd : td ≠ dg := ne_of d6 g6 (by intro z; cases z)
        have gl : l ≠ dg := ne_of l6 g6 (by intro z; cases z)
        refine ⟨_, rfl, tl, rfl, ⟨_, SqL.of (k6 _ _ ly el)⟩, for_list (K := K) (a := tl) (xs := as.map V.ref) (fun i σ H7 => ∃ x3 x4, σ = [some (.ref y), some (.int (n : Int)), some (.ref tl), x3, x4, none] ∧ Kp dg H6 H7 ∧ H7 dg = some (.dK (degD n (cnt (ps.take i)))))
          ⟨none, none, rfl, Kp.refl _ _, g6⟩ (fun i σ H7 _ ⟨_, _, _, kp, _⟩ => SqL.of (kp _ _ (ne_of_none el ndg) (k6 _ _ ly el))) ?_ ?_⟩
        · rintro i x σ H7 hx ⟨x3, x4, rfl, kp, eG⟩
          obtain ⟨a, rfl, ha⟩ := refs_at' hx
          obtain ⟨p, hp, ea⟩ := ta6.at_ ha
          have ea7 := kp _ _ (ne_of ea g6 (by intro z; cases z)) ea
          have y7 := kp _ _ (Ne.symm gy) y6
          have b := ti.bound (List.mem_of_getElem? hp)
          have tk : ps.take (i + 1) = ps.take i ++ [p] := by
            rw [List.take_succ, hp] <;> rfl
          have few : ∀ c : Int → Int, (degD n c).length < sizeLine := fun c => by
            refine small1000 ?_
            simp [degD]
            omega
          refine ⟨a, _, rfl, SqT.of ea7, rfl, _, _, rfl, _, _, rfl, rfl, ?_⟩
          refine ⟨_, rfl, y, C, dx, _, _, rfl, y7, T.cl, T.nG, look_yG n l td dg, _, rfl, dg, _, rfl, DGet.k' eG (valV_deg n _ b.1 b.2.1), _, _, rfl, rfl, _, DPut.k (k := Sum.inl p.1) eG (few _), ?_⟩
          rw [putK_deg n _ _ b.1 b.2.1]
          refine ⟨_, rfl, y, C, dx, _, _, rfl, (upd_ne (Ne.symm gy)).trans y7, T.cl, T.nG, look_yG n l td dg, _, rfl, dg, _, rfl, DGet.k' upd_same (valV_deg n _ b.2.2.1 b.2.2.2), _, _, rfl, rfl, _, DPut.k (k := Sum.inl p.2) upd_same (few _), ?_⟩
          rw [putK_deg n _ _ b.2.2.1 b.2.2.2]
          refine ⟨_, _, rfl, fun c o nc e => ?_, ?_⟩
          · rw [upd_ne nc, upd_ne nc]
            exact kp c o nc e
          · rw [upd_same]
            have e : (fun z => if z = p.2 then (if p.2 = p.1 then cnt (ps.take i) p.1 + 1 else cnt (ps.take i) p.2) + 1 else if z = p.1 then cnt (ps.take i) p.1 + 1 else cnt (ps.take i) z) = cnt (ps.take (i + 1)) := by
              funext z
              rw [tk, cnt_snoc]
              by_cases e1 : z = p.1
              · by_cases e2 : z = p.2
                · subst e1
                  simp [← e2]
                · subst e1
                  simp [e2, Ne.symm e2]
              · by_cases e2 : z = p.2
                · subst e2
                  simp [e1, Ne.symm e1]
                · simp [e1, e2, Ne.symm e1, Ne.symm e2]
            rw [e]
        · rintro σ H7 ⟨x3, x4, rfl, kp, eG⟩
          rw [List.length_map, ta.length, List.take_length] at eG
          refine q H7 l (fun b o nb e => kp _ _ (ne_of_none e ndg) (k6 b o nb e)) nlH ⟨dx, td, dg, kp _ _ (Ne.symm gy) y6, ⟨as, kp _ _ gl l6, ta6.keep fun b xs e => kp _ _ (ne_of e g6 (by intro z; cases z)) e⟩, kp _ _ gd d6, eG⟩
theorem has_init (D : IsMeth K C "__init__" "Yard.__init__" s_Yard_init) (B : Blt mg) (T : YTxt K mg C) (CH : Has P w K mg base 1 "check_yard" ["many", "ties"] spCheck) : HasM P w K mg base C 2 "__init__" ["self", "many", "ties"] (spInit C) := by
  obtain ⟨f, fd, h1, h2, h3⟩ := has_initF (P := P) (w := w) (base := base) D B T CH
  refine ⟨f, fd, h1, h2.imp fun vs H Q E h => ?_, h3⟩
  obtain ⟨y, dx, tl, n, ps, rfl, hy, pa, ti, n1, n30, q⟩ := h
  exact ⟨y, dx, tl, n, ps, rfl, hy, pa, ti, n1, n30, fun H' l k nl ⟨dx, td, dg, a, b, c, d⟩ => q H' k ⟨dx, l, td, dg, a, b, c, d⟩⟩
end
end DR

set_option Elab.async false
set_option linter.all false
set_option maxRecDepth 100000
set_option maxHeartbeats 4000000
namespace DR
open PySem PySem.Spec PyProof.Rows L2
/-- whether two places are tied -/
def tied (ps : List (Int × Int)) (a b : Int) : Bool := decide ((a, b) ∈ ps) || decide ((b, a) ∈ ps)
def spMany (C : Addr) : Sp := fun vs H Q _ => ∃ (y : Addr) (n : Nat) (ps : List (Int × Int)), vs = [.ref y] ∧ YardAt C H y n ps ∧ Q (.int (n : Int)) H
def spTies (C : Addr) : Sp := fun vs H Q _ => ∃ (y : Addr) (n : Nat) (ps : List (Int × Int)), vs = [.ref y] ∧ YardAt C H y n ps ∧ ∀ H' l, Same H H' → H l = none → PairsAt H' l ps → Q (.ref l) H'
def spTied (C : Addr) : Sp := fun vs H Q _ => ∃ (y : Addr) (n : Nat) (ps : List (Int × Int)) (a b : Int), vs = [.ref y, .int a, .int b] ∧ YardAt C H y n ps ∧ ∀ H', Same H H' → Q (.bl (tied ps a b)) H'
def spDeg (C : Addr) : Sp := fun vs H Q _ => ∃ (y : Addr) (n : Nat) (ps : List (Int × Int)) (a : Int), vs = [.ref y, .int a] ∧ YardAt C H y n ps ∧ 0 ≤ a ∧ a < n ∧ Q (.int (cnt ps a)) H
section
variable {P : Program} {w : World} {K : PySem.W.Frag} {mg : Str → Option Value} {base : Heap} {C : Addr}
theorem scMany : FnScope ["self"] ["self"] (defScope s_Yard_many) := ⟨rfl, rfl, rfl, by decide +kernel, rfl, by decide +kernel, by decide +kernel⟩
theorem has_many (D : IsMeth K C "many" "Yard.many" s_Yard_many) (T : YTxt K mg C) : HasM P w K mg base C 1 "many" ["self"] (spMany C) := by
  refine hasM_of D scMany (fun _ _ _ _ _ _ us hl => match us, hl with | [_], _ => rfl) (fun vs H Q E h => ?_) (fun f cdv A outer s H vs Q E hr h => ?_)
  · obtain ⟨y, n, ps, rfl, _⟩ := h
    rfl
  · obtain ⟨y, n, ps, rfl, ⟨dx, l, td, dg, h1, h2, h3, h4⟩, q⟩ := h
    refine ⟨_, pss_one (ps_ret (pe_fld (pv 0) rfl)), ?_⟩
    exact ⟨_, rfl, y, C, dx, _, _, rfl, h1, T.cl, T.nM, look_yM n l td dg, q⟩
theorem scTies : FnScope ["self"] ["self"] (defScope s_Yard_ties) := ⟨rfl, rfl, rfl, by decide +kernel, rfl, by decide +kernel, by decide +kernel⟩
theorem has_ties (D : IsMeth K C "ties" "Yard.ties" s_Yard_ties) (B : Blt mg) (T : YTxt K mg C) : HasM P w K mg base C 1 "ties" ["self"] (spTies C) := by
  refine hasM_of D scTies (fun _ _ _ _ _ _ us hl => match us, hl with | [_], _ => rfl) (fun vs H Q E h => ?_) (fun f cdv A outer s H vs Q E hr h => ?_)
  · obtain ⟨y, n, ps, rfl, _⟩ := h
    rfl
  · obtain ⟨y, n, ps, rfl, ⟨dx, l, td, dg, h1, ⟨as, el, ta⟩, h3, h4⟩, q⟩ := h
    refine ⟨_, pss_one (ps_ret (pe_callTy call_list_of (by rfl) B.list (by decide +kernel) (pa_cons (pe_fld (pv 0) rfl) pa_nil))), ?_⟩
    refine ⟨_, rfl, y, C, dx, _, _, rfl, h1, T.cl, T.nT, look_yT n l td dg, l, _, rfl, .inl (SqL.of el), fun p np => ?_⟩
    exact q _ p (same_new np) np ⟨as, upd_same, ta.new np⟩
end
end DR

set_option Elab.async false
set_option linter.all false
set_option maxRecDepth 100000
set_option maxHeartbeats 4000000
namespace DR
open PySem PySem.Spec PyProof.Rows L2
theorem hu64 {A : Around} {k : Nat} (hr : Room k A) : A.units + 64 < cLine := by have := hr.un; omega
theorem hu65 {A : Around} {k : Nat} (hr : Room k A) : A.units + 65 < cLine := by have := hr.un; omega
/-! ### the law's own words of a yard -/
/-- the pair of a drawn yard -/
def LawT (H : Hp) (t : Addr) (n : Nat) (ps : List (Int × Int)) : Prop := ∃ tl, H t = some (.tup [.int (n : Int), .ref tl]) ∧ PairsAt H tl ps
theorem LawT.same {H H' : Hp} {t : Addr} {n : Nat} {ps : List (Int × Int)} (h : LawT H t n ps) (s : Same H H') : LawT H' t n ps := by
  obtain ⟨tl, e, p⟩ := h
  exact ⟨tl, s _ _ e, p.same s⟩
/-- the same with its pairs in a list or in a dict -/
def LawK (H : Hp) (t : Addr) (n : Nat) (ps : List (Int × Int)) : Prop := ∃ tl, H t = some (.tup [.int (n : Int), .ref tl]) ∧ Known H tl ps
theorem LawK.same {H H' : Hp} {t : Addr} {n : Nat} {ps : List (Int × Int)} (h : LawK H t n ps) (s : Same H H') : LawK H' t n ps := by
  obtain ⟨tl, e, p⟩ := h
  exact ⟨tl, s _ _ e, p.same s⟩
theorem LawT.k {H : Hp} {t : Addr} {n : Nat} {ps : List (Int × Int)} (h : LawT H t n ps) : LawK H t n ps := by
  obtain ⟨tl, e, p⟩ := h
  exact ⟨tl, e, .inl p⟩
def LawD (H : Hp) (t : Addr) (n : Nat) (ps : List (Int × Int)) : Prop := ∃ td, H t = some (.tup [.int (n : Int), .ref td]) ∧ H td = some (.dT (tiedD ps))
theorem LawD.same {H H' : Hp} {t : Addr} {n : Nat} {ps : List (Int × Int)} (h : LawD H t n ps) (s : Same H H') : LawD H' t n ps := by
  obtain ⟨tl, e, p⟩ := h
  exact ⟨tl, s _ _ e, s _ _ p⟩
theorem LawD.k {H : Hp} {t : Addr} {n : Nat} {ps : List (Int × Int)} (h : LawD H t n ps) : LawK H t n ps := by
  obtain ⟨tl, e, p⟩ := h
  exact ⟨tl, e, .inr p⟩
theorem Ties.tied_mm {n : Nat} {ps : List (Int × Int)} (h : Ties n ps) (a b : Int) : decide ((if b < a then b else a, if b > a then b else a) ∈ ps) = tied ps a b := by
  unfold tied
  by_cases c : a ≤ b
  · rw [if_neg (by omega)]
    by_cases c2 : b > a
    · rw [if_pos c2]
      have : (b, a) ∉ ps := fun z => by
        have := h.rng _ z
        simp at this
        omega
      simp [this]
    · obtain rfl : a = b := by omega
      simp
  · rw [if_pos (by omega), if_neg (by omega)]
    have : (a, b) ∉ ps := fun z => by
      have := h.rng _ z
      simp at this
      omega
    simp [this]
end DR

set_option Elab.async false
set_option linter.all false
set_option maxRecDepth 100000
set_option maxHeartbeats 4000000
namespace DR
open PySem PySem.Spec PyProof.Rows L2
/-! #### written -/
def tJoin (ts : List TE) : TE := fun σ H Q => tJs ts Str.empty σ H fun out H1 => Q (.str out) H1
theorem pe_joinT {X : Cx} {v1 v2 : Expr} {rest : List Expr} {ts : List TE} {pos : Pos} (h : PJ X (v1 :: v2 :: rest) ts) : PE X (.JoinedStr (v1 :: v2 :: rest) pos) (tJoin ts) := pe_joined h
abbrev numS (i : Int) : Str := toString i
def rowTie (p : Int × Int) : Str := Str.empty ++ "tie " ++ numS p.1 ++ " " ++ numS p.2
def rowYard (n : Nat) : Str := Str.empty ++ "yard " ++ numS (n : Int)
def textOf (n : Nat) (ps : List (Int × Int)) : Str := Txt.join "\n" (rowYard n :: ps.map rowTie)
theorem numS_nat : ∀ i : Nat, i < 31 → (numS (i : Int)).length ≤ 2 := by decide +kernel
theorem numS_len {i : Int} (h0 : 0 ≤ i) (h1 : i ≤ 30) : (numS i).length ≤ 2 := by
  obtain ⟨j, rfl⟩ : ∃ j : Nat, i = (j : Int) := ⟨i.toNat, by omega⟩
  exact numS_nat j (by omega)
theorem log_small {i : Int} (h0 : 0 ≤ i) (h1 : i ≤ 30) : i.natAbs.log2 < 1920 := by
  have : i.natAbs ≤ 30 := by omega
  have h2 : i.natAbs < 2 ^ 1920 := Nat.lt_of_le_of_lt this (Nat.lt_of_lt_of_le (by decide : 30 < 2 ^ 5) (Nat.pow_le_pow_right (by decide) (by decide)))
  by_cases z : i.natAbs = 0
  · rw [z]
    decide
  · exact (Nat.log2_lt z).mpr h2
theorem app_len (a b : Str) : (a ++ b).length = a.length + b.length := by
  show (a.cps ++ b.cps).size = _
  exact Array.size_append
theorem rowTie_len {n : Nat} (n30 : n ≤ 30) {ps : List (Int × Int)} (ti : Ties n ps) {p : Int × Int} (hp : p ∈ ps) : (rowTie p).length ≤ 12 := by
  have r := ti.rng p hp
  have h1 := numS_len (i := p.1) (by omega) (by omega)
  have h2 := numS_len (i := p.2) (by omega) (by omega)
  unfold rowTie
  simp only [app_len]
  have e0 : Str.empty.length = 0 := rfl
  have e1 : ("tie " : Str).length = 4 := rfl
  have e2 : (" " : Str).length = 1 := rfl
  omega
theorem rowYard_len {n : Nat} (n30 : n ≤ 30) : (rowYard n).length ≤ 12 := by
  have h1 := numS_len (i := (n : Int)) (by omega) (by omega)
  unfold rowYard
  simp only [app_len]
  have e0 : Str.empty.length = 0 := rfl
  have e1 : ("yard " : Str).length = 5 := rfl
  omega
/-- a list of pairs, each made a text -/
theorem lc_mapS {K : PySem.W.Frag} {l D : Addr} {ps : List (Int × Int)} {H0 : Hp} {σ : L2.St} {i j : Nat} {te : TE} {Qd : Hp → Prop} (h : Int × Int → Str) (hl : PairsAt H0 l ps) (nD : H0 D = none) (len : ps.length ≤ 1000)
    (hw : ∀ a b : V, wipe (((wipe σ [i, j]).set i (some a)).set j (some b)) [i, j] = wipe σ [i, j])
    (elt : ∀ p H (R : V → Hp → Prop), p ∈ ps → Same H0 H → (∀ H', Same H H' → R (.str (h p)) H') → te (((wipe σ [i, j]).set i (some (.int p.1))).set j (some (.int p.2))) H R)
    (fin : ∀ H, Same H0 H → H D = some (.lst ((ps.map h).map V.str)) → Qd H) :
    ∃ W : Nat → Nat → Hp → Prop, (∃ m, W 0 m (upd H0 D (.lst []))) ∧ ∀ k m H, W k m H →
      ((Itl K l).stop k H ∧ Qd H) ∨ ((Itl K l).go k H ∧ ∃ Nx : Hp → Prop, (∀ H', Nx H' → ∃ m', m' < m ∧ W (k + 1) m' H') ∧ ∀ x H', (Itl K l).yld k H x H' → gTup K 2 (gCons (gName i) (gCons (gName j) gNil)) x (wipe σ [i, j]) H' fun σ2 H2 => wipe σ2 [i, j] = wipe σ [i, j] ∧ tYes σ2 H2 fun b H3 =>
        if b = true then te σ2 H3 fun y H4 => ∃ acc, H4 D = some (.lst acc) ∧ acc.length < sizeLine ∧ Nx (upd H4 D (.lst (acc ++ [y]))) else Nx H3) := by
  obtain ⟨as, el, ta⟩ := hl
  have lD : l ≠ D := ne_of_none el nD
  refine lc_list (K := K) (a := l) (xs := as.map V.ref) (g := gTup K 2 (gCons (gName i) (gCons (gName j) gNil))) (tt := tYes) (te := te) (vs := [i, j]) (σ := σ) (Pv := fun k H => Kp D H0 H ∧ H D = some (.lst (((ps.take k).map h).map V.str)))
    ⟨Kp.put _ _ _, upd_same⟩ (fun k H _ ⟨kp, _⟩ => SqL.of (kp l _ lD el)) (fun k x H hx ⟨kp, eD⟩ => ?_) (fun H ⟨kp, eD⟩ => ?_)
  · obtain ⟨a, rfl, ha⟩ := refs_at' hx
    obtain ⟨p, hp, ea⟩ := ta.at_ ha
    have s2 : Same H0 H := fun c o e => kp c o (ne_of_none e nD) e
    have hk : k < ps.length := (List.getElem?_eq_some_iff.mp hp).1
    refine ⟨a, _, rfl, SqT.of (s2 _ _ ea), rfl, _, _, rfl, _, _, rfl, rfl, hw _ _, ?_⟩
    refine elt p H _ (List.mem_of_getElem? hp) s2 fun H' s3 => ⟨_, s3 _ _ eD, ?_, fun c o nc e => ?_, ?_⟩
    · rw [List.length_map, List.length_map, List.length_take]
      exact small1000 (by omega)
    · rw [upd_ne nc]
      exact s3 c o (kp c o nc e)
    · rw [upd_same, List.take_succ, hp, List.map_append, List.map_append]
      rfl
  · refine fin H (fun c o e => kp c o (ne_of_none e nD) e) ?_
    rw [List.length_map, ta.length, List.take_length] at eD
    exact eD
end DR

set_option Elab.async false
set_option linter.all false
set_option maxRecDepth 100000
set_option maxHeartbeats 4000000
namespace DR
open PySem PySem.Spec PyProof.Rows L2 TL
/-! #### a text read back -/
/-- a word is a number -/
def isNum (z : Str) : Bool := if z.length == 2 && decide (z.cps.toList[0]? = some 48) then false else (z.length == 1 || z.length == 2) && z.cps.toList.all fun c => decide (c ∈ ("0123456789" : Str).cps.toList)
theorem isNum_nat : ∀ i : Nat, i < 31 → isNum (numS (i : Int)) = true := by decide +kernel
theorem int_nat : ∀ i : Nat, i < 31 → PySem.intText? (numS (i : Int)) = some (i : Int) := by decide +kernel
theorem no_gap_nat : ∀ i : Nat, i < 31 → 32 ∉ (numS (i : Int)).cps.toList := by decide +kernel
theorem no_line_nat : ∀ i : Nat, i < 31 → 10 ∉ (numS (i : Int)).cps.toList := by decide +kernel
theorem nat_of {i : Int} (h0 : 0 ≤ i) (h1 : i ≤ 30) : ∃ j : Nat, j < 31 ∧ i = (j : Int) := ⟨i.toNat, by omega, by omega⟩
/-- a number as it may stand in a row -/
def Num30 (i : Int) : Prop := 0 ≤ i ∧ i ≤ 30
theorem isNum_ok {i : Int} (h : Num30 i) : isNum (numS i) = true := by
  obtain ⟨j, h1, rfl⟩ := nat_of h.1 h.2
  exact isNum_nat j h1
theorem int_ok {i : Int} (h : Num30 i) : PySem.intText? (numS i) = some i := by
  obtain ⟨j, h1, rfl⟩ := nat_of h.1 h.2
  exact int_nat j h1
theorem no_gap {i : Int} (h : Num30 i) : 32 ∉ tl (numS i) := by
  obtain ⟨j, h1, rfl⟩ := nat_of h.1 h.2
  exact no_gap_nat j h1
theorem no_line {i : Int} (h : Num30 i) : 10 ∉ tl (numS i) := by
  obtain ⟨j, h1, rfl⟩ := nat_of h.1 h.2
  exact no_line_nat j h1
theorem str_eq {a b : Str} (h : tl a = tl b) : a = b := by
  rw [← mk_tl a, h, mk_tl]
theorem tl_tie (p : Int × Int) : tl (rowTie p) = [116, 105, 101, 32] ++ tl (numS p.1) ++ [32] ++ tl (numS p.2) := by
  unfold rowTie
  rw [tl_append, tl_append, tl_append, tl_append]
  rfl
theorem tl_yard (n : Nat) : tl (rowYard n) = [121, 97, 114, 100, 32] ++ tl (numS (n : Int)) := by
  unfold rowYard
  rw [tl_append, tl_append]
  rfl
theorem tie_join (i j : Int) : rowTie (i, j) = Txt.join " " [("tie" : Str), numS i, numS j] := by
  refine str_eq ?_
  rw [tl_tie, join_eq, tl_join]
  show _ = [116, 105, 101] ++ ([32] ++ (tl (numS i) ++ ([32] ++ tl (numS j))))
  simp
theorem yard_join (n : Nat) : rowYard n = Txt.join " " [("yard" : Str), numS (n : Int)] := by
  refine str_eq ?_
  rw [tl_yard, join_eq, tl_join]
  show _ = [121, 97, 114, 100] ++ ([32] ++ tl (numS (n : Int)))
  simp
theorem split_tie_ok {i j : Int} (h : Num30 i) (h' : Num30 j) : Txt.split (rowTie (i, j)) " " = [("tie" : Str), numS i, numS j] := by
  rw [tie_join]
  refine split_join (s := 32) (S := []) rfl (by decide +kernel) (List.cons_ne_nil _ _) fun p hp => ?_
  simp only [List.mem_cons, List.not_mem_nil, or_false] at hp
  rcases hp with z | z | z
  · rw [z]
    decide +kernel
  · rw [z]
    exact no_gap h
  · rw [z]
    exact no_gap h'
theorem split_yard_ok {n : Nat} (h : n ≤ 30) : Txt.split (rowYard n) " " = [("yard" : Str), numS (n : Int)] := by
  rw [yard_join]
  refine split_join (s := 32) (S := []) rfl (by decide +kernel) (List.cons_ne_nil _ _) fun p hp => ?_
  simp only [List.mem_cons, List.not_mem_nil, or_false] at hp
  rcases hp with z | z
  · rw [z]
    decide +kernel
  · rw [z]
    exact no_gap ⟨by omega, by omega⟩
theorem split_text {n : Nat} {ps : List (Int × Int)} (n30 : n ≤ 30) (hp : ∀ p ∈ ps, Num30 p.1 ∧ Num30 p.2) : Txt.split (textOf n ps) "\n" = rowYard n :: ps.map rowTie := by
  refine split_join (s := 10) (S := []) rfl (by decide +kernel) (List.cons_ne_nil _ _) fun p h => ?_
  rcases List.mem_cons.mp h with z | z
  · rw [z, tl_yard]
    have := no_line (i := (n : Int)) ⟨by omega, by omega⟩
    simp [this]
  · obtain ⟨q, hq, rfl⟩ := List.mem_map.mp z
    obtain ⟨h1, h2⟩ := hp q hq
    have a := no_line h1
    have b := no_line h2
    rw [tl_tie]
    simp [a, b]
end DR

set_option Elab.async false
set_option linter.all false
set_option maxRecDepth 100000
set_option maxHeartbeats 4000000
/-! ### all(e for x in row), the test a call of an own def: the generator's frame as a context of its own -/
namespace DR
open PySem PySem.Spec PyProof.Rows L2
open GxR (TabB TabG Tabbed)
/-- the generator's own frame -/
@[reducible] def gCx (X : Cx) (A' : Around) (s0 : Shared) (H0 : Hp) (fp : List Addr) (cenv : Env) (x : Str) : Cx where
  prog := X.prog
  w := X.w
  K := X.K
  mg := X.mg
  base := X.base
  A := A'
  N := [x]
  s_0 := s0
  H_0 := H0
  env := cenv
  outer := X.stack
  stack := cenv :: X.stack
  ex := fp
  fn := fun _ => false
  calm := true
  pn := []
  xe := fun _ _ => False
section
variable {Y : Cx} {A1 : Around} {elt iter : Expr} {x : Str} {px pos : Pos} {scope : Scope} {I : Addr} {fp : List Addr} {tn : Nat → Heap → Prop} {J : It} {n : Nat} {pb : Nat → Bool} {R : Nat → Hp → Prop} {te : TE} {a : Addr} {o : Obj} {g : Nat}
/-- between two turns -/
def GJ (Y : Cx) (fp : List Addr) (tn : Nat → Heap → Prop) (R : Nat → Hp → Prop) (a : Addr) (o : Obj) (j : Nat) (s : Shared) : Prop :=
  ∃ H σ, Inv Y [(a, o)] σ H s ∧ tn j s.heap ∧ (∀ b ∈ fp, H b = none) ∧ R j H
/-- behind the last turn that was made -/
def GZ (Y : Cx) (R : Nat → Hp → Prop) (a : Addr) (o : Obj) (j : Nat) (s : Shared) : Prop := ∃ H σ, Inv Y [(a, o)] σ H s ∧ R j H
theorem GJ.z {j : Nat} {s : Shared} (h : GJ Y fp tn R a o j s) : GZ Y R a o j s := let ⟨H, σ, I, _, _, r⟩ := h; ⟨H, σ, I, r⟩
def GP (Y : Cx) (fp : List Addr) (tn : Nat → Heap → Prop) (R : Nat → Hp → Prop) (a : Addr) (o : Obj) (n : Nat) (pb : Nat → Bool) : Protocol := fun m _ v s kap =>
  ∃ j, j + 1 + m = n ∧ v = .bool (pb j) ∧ GJ Y fp tn R a o (j + 1) s ∧ ∀ s'', GJ Y fp tn R a o (j + 1) s'' → kap (.send .none) s''
def GE (Y : Cx) (R : Nat → Hp → Prop) (a : Addr) (o : Obj) (n : Nat) : GenEnd := fun m _ r s => r = .ok .next ∧ (m = 0 ∧ GZ Y R a o n s)

structure GOk (Y : Cx) (A1 : Around) (elt iter : Expr) (x : Str) (px pos : Pos) (scope : Scope) (I : Addr) (fp : List Addr) (tn : Nat → Heap → Prop) (J : It) (n : Nat) (pb : Nat → Bool) (R : Nat → Hp → Prop) (te : TE) (a : Addr) (o : Obj) : Prop where
  around : Y.A = A1.over (.compLoop (.GeneratorExp elt [⟨.Name x px, iter, [], 0⟩] scope pos) 0 (.ref I) .none Y.env) []
  calm : Y.calm = true
  xe : ∀ v s, ¬ Y.xe v s
  turn : Turn Y.prog Y.w Y.K (.Name x px) J fp I tn
  nm : Y.N = [x]
  loc : Y.env.scope.names.lookup x = some .local
  co : Y.env.scope.isCoroutine = false
  fpk : ∀ H, (∀ b ∈ fp, H b = none) → ∀ b ∈ fp, FpOk Y [(a, o)] H b
  elt : PE Y elt te
  go : ∀ j H, j < n → R j H → J.go j H
  stop : ∀ H, R n H → J.stop n H
  step : ∀ j H v H', j < n → R j H → J.yld j H v H' → te [some v] H' fun v H'' => v = .bl (pb j) ∧ R (j + 1) H''

theorem GJ.gens {j : Nat} {s : Shared} {g' : Array GenState} (h : GJ Y fp tn R a o j s) (hg : AllBare g') : GJ Y fp tn R a o j { s with gens := g' } := by
  obtain ⟨H, σ, I, st, fr, r⟩ := h
  exact ⟨H, σ, ⟨I.ok, I.os, hg, I.base, I.loc, I.cell, I.free, I.freeC, I.pin, I.hok, I.len⟩, st, fr, r⟩

theorem seg_gloop (G : GOk Y A1 elt iter x px pos scope I fp tn J n pb R te a o) : ∀ (k j : Nat) (s₀ s : Shared), n - j = k → j ≤ n → GJ Y fp tn R a o j s →
    Seg (model Y.prog Y.w) A1 (GE Y R a o n) (GP Y fp tn R a o n pb) (n - j) s₀ (.compLoop (.GeneratorExp elt [⟨.Name x px, iter, [], 0⟩] scope pos) 0 (.ref I) .none Y.env)
      ((model Y.prog Y.w).den (.compLoop (.GeneratorExp elt [⟨.Name x px, iter, [], 0⟩] scope pos) 0 (.ref I) .none Y.env)) [] s := by
  intro k
  induction k with
  | zero =>
    intro j s₀ s hk hj ⟨H, σ, I1, st, fr, r⟩
    have e : j = n := by omega
    subst e
    show Seg _ A1 _ _ _ s₀ _ ((compTurn (.GeneratorExp elt [⟨.Name x px, iter, [], 0⟩] scope pos) 0 (.ref I) .none Y.env).onRaise (leaving Y.env)) [] s
    rw [compTurn_gen, Sem.onRaise_eq_wrap]
    refine seg_bind_wrap (wpAny_standAt ?_)
    refine seg_bind_wrap ?_
    rw [← G.around]
    refine wpAny_mono (G.turn.done Y rfl rfl rfl G.calm j [(a, o)] s σ H (fun _ _ => False) I1 (G.fpk H fr) st (G.stop H r)) (fun rr s1 ⟨hr, I2⟩ => ?_) fun _ _ z => z.elim
    subst hr
    exact seg_end (.ok .next) ⟨rfl, by omega, H, σ, I2, r⟩
  | succ k ih =>
    intro j s₀ s hk hj ⟨H, σ, I1, st, fr, r⟩
    have hlt : j < n := by omega
    show Seg _ A1 _ _ _ s₀ _ ((compTurn (.GeneratorExp elt [⟨.Name x px, iter, [], 0⟩] scope pos) 0 (.ref I) .none Y.env).onRaise (leaving Y.env)) [] s
    rw [compTurn_gen, Sem.onRaise_eq_wrap]
    refine seg_bind_wrap (wpAny_standAt ?_)
    refine seg_bind_wrap ?_
    rw [← G.around]
    refine wpAny_mono (G.turn.item Y rfl rfl rfl G.calm j [(a, o)] s σ H (fun _ _ => False) I1 (G.fpk H fr) st (G.go j H hlt r)) (fun rr s1 ⟨u, hr, h4⟩ => ?_) fun _ _ z => z.elim
    subst hr
    refine seg_bind_wrap ?_
    rw [← G.around]
    refine wpAny_mono h4 (fun _ s2 ⟨v, H2, I2, rv, y2, st2, fr2⟩ => ?_) fun _ _ z => z.elim
    have I3 := I2.pinned (G.fpk H2 fr2) (G.turn.obj _ _ st2)
    have nd : Y.N.Nodup := by rw [G.nm]; simp
    have h0 : Y.N[0]? = some x := by rw [G.nm]; rfl
    refine seg_bind_wrap ?_
    rw [← G.around]
    refine wpAny_assign_Name (store_ok I3 nd h0 (.inl G.loc) rv (fun s3 I4 => ?_) (.inr G.loc))
    simp only [List.forIn_nil]
    refine seg_bind_wrap (wpAny_pure ?_)
    simp only [if_true]
    have hl : σ.length = 1 := by
      have := I1.len
      rw [G.nm] at this
      exact this
    have eσ : σ.set 0 (some v) = [some v] := by
      match σ, hl with
      | [_], _ => rfl
    rw [eσ] at I4
    have hy : ∀ v, yieldOut Y.env v = yieldValue v := fun v => by simp only [yieldOut, G.co, Bool.false_eq_true, if_false]
    simp only [hy]
    rw [Sem.bind_eq_wrap', Sem.bind_eq_wrap', Sem.wrap_wrap, Sem.wrap_wrap]
    refine seg_wrap ?_
    rw [← G.around]
    refine wpAny_mono (G.elt.run _ s3 _ H2 _ I4 (G.step j H v H2 hlt r y2)) (fun y s4 h5 => ?_) fun _ _ z => (G.xe _ _ z).elim
    obtain ⟨w, H5, I5, rw5, ew, r5⟩ := h5
    subst ew
    have ey : y = .bool (pb j) := rw5
    subst ey
    have st5 : tn (j + 1) s4.heap := G.turn.keep _ _ _ st2 fun b hb o' e => (I5.pin (b, o') (List.mem_append_right _ (List.mem_append_right _ (mem_pinsAt hb e)))).1
    have fr5 : ∀ b ∈ fp, H5 b = none := fun b hb => by
      obtain ⟨o', e, d⟩ := G.turn.obj _ _ st2 b hb
      exact (I5.pin (b, o') (List.mem_append_right _ (List.mem_append_right _ (mem_pinsAt hb e)))).2.1
    have gj : GJ Y fp tn R a o (j + 1) s4 := ⟨H5, _, I5.unpinned, st5, fr5, r5⟩
    obtain ⟨m, hm⟩ : ∃ m, n - j = m + 1 := ⟨n - j - 1, by omega⟩
    rw [hm]
    refine seg_at (seg_yield rfl rfl rfl ⟨j, by omega, rfl, gj, fun s'' gj2 => ?_⟩)
    have e2 : m = n - (j + 1) := by omega
    rw [e2]
    exact seg_again rfl (ih (j + 1) s'' s'' (by omega) (by omega) gj2)
theorem seg_gstart (G : GOk Y A1 elt iter x px pos scope I fp tn J n pb R te a o) (s : Shared) (h : GJ Y fp tn R a o 0 s) :
    Seg (model Y.prog Y.w) A1 (GE Y R a o n) (GP Y fp tn R a o n pb) n s (.compStart (.GeneratorExp elt [⟨.Name x px, iter, [], 0⟩] scope pos) 0 (.ref I) .none Y.env)
      ((model Y.prog Y.w).den (.compStart (.GeneratorExp elt [⟨.Name x px, iter, [], 0⟩] scope pos) 0 (.ref I) .none Y.env)) [] s := by
  have loop := seg_gloop G n 0 s s (Nat.sub_zero _) (Nat.zero_le _) h
  rw [Nat.sub_zero] at loop
  obtain ⟨H, σ, I1, st, fr, r⟩ := h
  show Seg _ A1 _ _ _ s _ ((compStart (.GeneratorExp elt [⟨.Name x px, iter, [], 0⟩] scope pos) 0 (.ref I) .none Y.env).onRaise (leaving Y.env)) [] s
  unfold compStart
  rw [Sem.onRaise_eq_wrap]
  show Seg _ A1 _ _ _ s _ ((ask >>= _).wrap _ _ _ _) [] s
  refine seg_bind_wrap (wpAny_askSetting ?_)
  split
  · exact seg_again rfl loop
  · first
      | exact seg_bind_wrap (wpAny_rule (seg_bind_wrap (wpAny_standAt (seg_bind_wrap (G.turn.self _ 0 s _ _ st (seg_again rfl loop))))))
      | (refine seg_bind_wrap (wpAny_rule ?_); show Seg _ A1 _ _ _ s _ ((standAt iter.pos >>= _).wrap _ _ _ _) [] s; exact seg_bind_wrap (wpAny_standAt (seg_bind_wrap (G.turn.self _ 0 s _ _ st (seg_again rfl loop)))))

/-- the generator, ready for its next turn -/
def GReady (Y : Cx) (A1 : Around) (fp : List Addr) (tn : Nat → Heap → Prop) (R : Nat → Hp → Prop) (a : Addr) (o : Obj) (n : Nat) (pb : Nat → Bool) (g : Nat) (j : Nat) (s : Shared) : Prop :=
  GJ Y fp tn R a o j s ∧ ∃ gs, s.gens[g]? = some gs ∧ ∀ s'', GJ Y fp tn R a o j s'' → gs.Goes (model Y.prog Y.w) A1 (GE Y R a o n) (GP Y fp tn R a o n pb) (n - j) (.send .none) s''
theorem GJ.isGen {j : Nat} {s : Shared} (ho : ∀ h : Heap, h.get? a = some o → h.IsGen a g) (h : GJ Y fp tn R a o j s) : s.heap.IsGen a g := by
  obtain ⟨H, σ, I1, _⟩ := h
  exact ho _ (I1.pin (a, o) (List.mem_append_right _ (List.mem_singleton.mpr rfl))).1
theorem GJ.noLimit {j : Nat} {s : Shared} (h : GJ Y fp tn R a o j s) : s.heap.NoLimit := let ⟨_, _, I1, _⟩ := h; I1.nolimit
theorem GJ.bare {j : Nat} {s : Shared} (h : GJ Y fp tn R a o j s) : AllBare s.gens := let ⟨_, _, I1, _⟩ := h; I1.bare
theorem gens_lt {s : Shared} {g : Nat} {gs : GenState} (h : s.gens[g]? = some gs) : g < s.gens.size := by
  rcases Nat.lt_or_ge g s.gens.size with h' | h'
  · exact h'
  · rw [Array.getElem?_eq_none h'] at h
    cases h
theorem setGen_at {s : Shared} {g : Nat} {x : GenState} (h : g < s.gens.size) : (s.setGen g x).gens[g]? = some x := by
  simp [Shared.setGen, h]
/-- one turn -/
theorem next_item {A : Around} {j : Nat} {s : Shared} {Q : Option Value → Shared → Prop} {E : Value → Shared → Prop} (hh : A.handled = none) (hroom : A.depth < recursionLimit) (ho : ∀ h : Heap, h.get? a = some o → h.IsGen a g) (hj : j < n)
    (r : GReady Y A.in1 fp tn R a o n pb g j s) (hQ : ∀ s', GReady Y A.in1 fp tn R a o n pb g (j + 1) s' → Q (some (.bool (pb j))) s') : wpAny (model Y.prog Y.w) A (pyNext (.ref a)) Q E s := by
  obtain ⟨gj, gs, hgs, go⟩ := r
  obtain ⟨m, hm⟩ : ∃ m, n - j = m + 1 := ⟨n - j - 1, by omega⟩
  rw [hm] at go
  have run := go (s.setGen g .running) (gj.gens (allBare_setGen gj.bare rfl))
  refine GenW.wpAny_gsz (Nat.le_refl s.gens.size) ?_
  refine wpAny_pyNext_genexpQ (P := fun m _ s1 => m = 0 ∧ GZ Y R a o n s1) (Y := GP Y fp tn R a o n pb) hh gj.noLimit hroom (gj.isGen ho) hgs run (fun v s₁ gs' hb hv => ?_) (fun s₁ hp => absurd hp.1 (Nat.succ_ne_zero m))
  obtain ⟨j', ej, ev, gj1, kap⟩ := hv
  have e1 : j' = j := by omega
  subst e1
  subst ev
  intro hsz
  have hlt : g < s₁.gens.size := by
    have h1 := gens_lt hgs
    rw [GenW.setGen_size] at hsz
    omega
  refine hQ _ ⟨gj1.gens (allBare_setGen gj1.bare hb), gs', setGen_at hlt, fun s'' gj2 => ?_⟩
  have e2 : n - (j' + 1) = m := by omega
  rw [e2]
  exact kap s'' gj2
theorem next_end {A : Around} {s : Shared} {Q : Option Value → Shared → Prop} {E : Value → Shared → Prop} (hh : A.handled = none) (hroom : A.depth < recursionLimit) (ho : ∀ h : Heap, h.get? a = some o → h.IsGen a g)
    (r : GReady Y A.in1 fp tn R a o n pb g n s) (hQ : ∀ s', GZ Y R a o n s' → Q none s') : wpAny (model Y.prog Y.w) A (pyNext (.ref a)) Q E s := by
  obtain ⟨gj, gs, hgs, go⟩ := r
  rw [Nat.sub_self] at go
  have run := go (s.setGen g .running) (gj.gens (allBare_setGen gj.bare rfl))
  refine wpAny_pyNext_genexpQ (P := fun m _ s1 => m = 0 ∧ GZ Y R a o n s1) (Y := GP Y fp tn R a o n pb) hh gj.noLimit hroom (gj.isGen ho) hgs run (fun v s₁ gs' hb hv => ?_) (fun s₁ hp h' hk => ?_)
  · obtain ⟨j', ej, ev, gj1, kap⟩ := hv
    exact (kap s₁ gj1).elim
  · obtain ⟨_, H, σ, I1, r1⟩ := hp
    have I2 : Inv Y [(a, o)] σ H { s₁ with heap := h', gens := (s₁.setGen g .finished).gens } :=
      let I3 := I1.kept (t' := s₁.toks) hk
      ⟨I3.ok, I3.os, allBare_setGen I1.bare rfl, I3.base, I3.loc, I3.cell, I3.free, I3.freeC, I3.pin, I3.hok, I3.len⟩
    exact hQ _ ⟨H, σ, I2, r1⟩
theorem all_gloop {A : Around} {R' : Result → Shared → Prop} (hh : A.handled = none) (hroom : A.depth < recursionLimit) (ho : ∀ h : Heap, h.get? a = some o → h.IsGen a g) : ∀ (k j : Nat) (s : Shared), n - j = k → j ≤ n → GReady Y A.in1.in1 fp tn R a o n pb g j s →
    (∀ j' s', j' ≤ n → GZ Y R a o j' s' → R' (.ok (.ret (.bool (((List.range n).drop j).all pb)))) s') → codeAny (model Y.prog Y.w) A (.builtin "all.loop" ⟨[.ref a], []⟩) R' s := by
  intro k
  induction k with
  | zero =>
    intro j s hk hj r hR
    have e : j = n := by omega
    subst e
    refine codeAny_builtin F.entry_all_loop ?_
    rw [Around.under_plainId F.plain_all_loop _]
    show wpAny _ A.in1 (pyNext (.ref a) >>= _) _ _ s
    refine wpAny_bind (next_end hh hroom ho r fun s' z => ?_)
    refine wpAny_bind (wpAny_rule (wpAny_pure ?_))
    have q := hR j s' (Nat.le_refl _) z
    rw [List.drop_of_length_le (by simp)] at q
    exact q
  | succ k ih =>
    intro j s hk hj r hR
    have hlt : j < n := by omega
    have hd : (List.range n).drop j = j :: (List.range n).drop (j + 1) := by
      rw [List.drop_eq_getElem_cons (by simpa using hlt)]
      simp
    refine codeAny_builtin F.entry_all_loop ?_
    rw [Around.under_plainId F.plain_all_loop _]
    show wpAny _ A.in1 (pyNext (.ref a) >>= _) _ _ s
    refine wpAny_bind (next_item hh hroom ho hlt r fun s' r' => ?_)
    refine wpAny_bind (wpAny_holding (wpAny_truthy_bool ?_))
    refine wpAny_bind (wpAny_letGo ?_)
    cases hb : pb j with
    | true =>
      simp only [if_true]
      refine wpAny_pure ⟨plainId_quiet F.plain_all_loop _, ih (j + 1) _ (by omega) hlt r' fun j' s'' h1 z => ?_⟩
      have q := hR j' s'' h1 z
      rw [hd, List.all_cons, hb, Bool.true_and] at q
      exact q
    | false =>
      simp only [Bool.false_eq_true, if_false]
      refine wpAny_bind (wpAny_rule (wpAny_pure ?_))
      have q := hR (j + 1) s' (by omega) r'.1.z
      rw [hd, List.all_cons, hb, Bool.false_and] at q
      exact q
theorem call_all_g {A : Around} {s : Shared} {Q : Value → Shared → Prop} {E : Value → Shared → Prop} (hh : A.handled = none) (hroom : A.depth < recursionLimit) (ho : ∀ h : Heap, h.get? a = some o → h.IsGen a g) (r : GReady Y A.in1.in1 fp tn R a o n pb g 0 s)
    (hQ : ∀ j s', j ≤ n → GZ Y R a o j s' → Q (.bool ((List.range n).all pb)) s') : wpAny (model Y.prog Y.w) A (call (.builtin "all") [.ref a]) Q E s := by
  refine call_function_tree F.kind_all F.plain_all F.entry_all (F.args_all1 _) ?_
  unfold Builtin.«all»
  refine wpAny_bind (m := oneArg "all" _) (wpAny_pure ?_)
  refine wpAny_bind (wpAny_pyIter_gen (r.1.isGen ho) ?_)
  exact wpAny_pure ⟨plainId_quiet F.plain_all_loop _, all_gloop hh hroom ho n 0 s rfl (Nat.zero_le _) r fun j s' h1 z => by simpa using hQ j s' h1 z⟩
end
/-- the generator's scope: nothing captured -/
structure GenN (scope : Scope) (x : Str) : Prop where
  kind : scope.kind = .function
  co : scope.isCoroutine = false
  cell : ∀ y ∈ scope.names, y.2 ≠ .cell
  free : ∀ y ∈ scope.names, y.2 ≠ .free
  dot : scope.names.lookup (".0" : Str) = some NameKind.local
  loc : scope.names.lookup x = some .local
theorem clo_nil (cells : List (Str × Addr)) : ∀ (l : List (Str × NameKind)) (acc : List (Str × Addr)), (∀ y ∈ l, y.2 ≠ .free) → cloFrom cells l acc = acc
  | [], _, _ => rfl
  | (n, k) :: r, acc, h => by
    have hk : (k == NameKind.free) = false := by
      have := h (n, k) List.mem_cons_self
      cases k <;> first | rfl | exact absurd rfl this
    show (if (k == NameKind.free) = true then _ else _) = _
    rw [hk]
    exact clo_nil cells r acc fun y hy => h y (List.mem_cons_of_mem _ hy)
section
variable {X : Cx} {c P : Addr} {elt iter : Expr} {x : Str} {px p pos gpos : Pos} {scope : Scope} {wi : TI} {te : TE} {k : Nat}
abbrev gObj (g tk : Nat) (q : Str) : Obj := { cls := .type "generator", data := .fields #[.int g 0, .str "<genexpr>" (tk + 1), .str q (tk + 1 + 1)] }
/-- what is said of the walk: its turns, the tests, what holds between them -/
def GTurns (J : It) (te : TE) (H2 : Hp) (Qf : Nat → (Nat → Bool) → (Nat → Hp → Prop) → Prop) : Prop := ∃ (n : Nat) (pb : Nat → Bool) (R : Nat → Hp → Prop), R 0 H2 ∧ (∀ j H, j < n → R j H → J.go j H) ∧ (∀ H, R n H → J.stop n H) ∧
  (∀ j H v H', j < n → R j H → J.yld j H v H' → te [some v] H' fun b H'' => b = .bl (pb j) ∧ R (j + 1) H'') ∧ Qf n pb R
theorem gen_own {pins : List (Addr × Obj)} {σ : L2.St} {H : Hp} {s : Shared} {Q' : Value → Shared → Prop} {Qf : Nat → (Nat → Bool) → (Nat → Hp → Prop) → Prop} (hr : Room (k + 1) X.A) (TB : TabB X.base X.mg c P) (hcode : X.env.code = .ref c) (S : GenN scope x) (hi : PI X (.Name x px) iter wi)
    (hel : ∀ (A' : Around) (s0 : Shared) (H0 : Hp) (fp : List Addr) (C : Addr) (code : Value), Room k A' → PE (gCx X A' s0 H0 fp (genEnv scope [] C code builtinsNs X.env) x) elt te)
    (hs : ∀ v, genFold iter X.env v = pure v) (I : Inv X pins σ H s) (h : wi σ H fun J H1 => TabG H1 P ∧ ∀ H2, Tabbed P H1 H2 → GTurns J te H2 Qf)
    (hQ : ∀ (Y : Cx) (fp : List Addr) (tn : Nat → Heap → Prop) (R : Nat → Hp → Prop) (a : Addr) (o : Obj) (n : Nat) (pb : Nat → Bool) (g : Nat) (s5 : Shared), Y.prog = X.prog → Y.w = X.w → (∀ h : Heap, h.get? a = some o → h.IsGen a g) →
      GReady Y X.A.in1.in1 fp tn R a o n pb g 0 s5 → (∀ j s', GZ Y R a o j s' → ∃ H', Inv X pins σ H' s' ∧ R j H') → Qf n pb R → Q' (.ref a) s5) :
    wpAny (model X.prog X.w) X.A (eval (.GeneratorExp elt [⟨.Name x px, iter, [], 0⟩] scope gpos) X.env) Q' X.xe s := by
  have hclos : closureFor scope X.env = pure [] := by
    rw [closure_ok fun y hy e => absurd e (S.free y hy), clo_nil _ _ _ S.free]
  refine wpAny_GeneratorExp_make S.co hclos S.cell S.dot S.kind (by have := hr.dp; omega) ?_ hs
  refine thn (hi.run pins s σ H _ I h) fun xv s1 h1 => thn h1 fun itv s2 hP => ?_
  obtain ⟨it, fp, tn, J, H2, rfl, I2, T, st2, f2, ⟨ps, hP, ht⟩, q⟩ := hP
  refine ⟨I2.nolimit, ?_⟩
  have hPs : s2.heap.get? P = some { cls := .none, data := .fields ps } := I2.hok P _ hP
  have cd : PySem.W.CodeHd s2.heap c P := TB.code.keeps fun b u e => I2.bk b u e
  have cont : ∀ (code : Value) (h3 : Heap) (tk : Nat) (ps' : Array Value), Heap.ExtBut P s2.heap h3 → s2.heap.objs.size ≤ h3.objs.size → h3.get? P = some { cls := .none, data := .fields ps' } → (∃ more, ps' = ps ++ more) → TriplesOk ps'.toList →
      wpAny (model X.prog X.w) X.A (builtinsFor X.env.globals X.env.builtins) (fun bi s₄ =>
        ∀ h', h'.Ns s₄.heap.objs.size (fun y => if y = ".0" then some (.ref it) else none) → Heap.SameBut s₄.heap.objs.size (s₄.heap.push { cls := .type "frame", data := .dict #[] }) h' →
          Q' (.ref h'.objs.size) { s₄ with
            gens := s₄.gens.push (.fresh (.compStart (.GeneratorExp elt [⟨.Name x px, iter, [], 0⟩] scope gpos) 0 (.ref it) .none (genEnv scope [] s₄.heap.objs.size code bi X.env))),
            toks := s₄.toks + 1 + 1 + 1,
            heap := h'.push { cls := .type "generator", data := .fields #[.int s₄.gens.size 0, .str "<genexpr>" (s₄.toks + 1), .str (X.env.qual ++ "<genexpr>") (s₄.toks + 1 + 1)] } }) X.xe { s2 with heap := h3, toks := tk } := by
    intro code h3 tk ps' hx hsz hP3 hmore ht3
    obtain ⟨more, rfl⟩ := hmore
    obtain ⟨bm, ob, e1, e2, e3, e4, e5, e6, e7, e8⟩ := TB.bm
    have keep3 : ∀ b u, b ≠ P → s2.heap.get? b = some u → h3.get? b = some u := fun b u hb e => hx b u hb e
    have I3 : Inv X pins σ (upd H2 P (.tbl (ps ++ more))) { s2 with heap := h3, toks := tk } := GxR.inv_tab (g' := s2.gens) (d' := s2.drawn) (t' := tk) I2 hP (fun b u hb e => keep3 b u hb e) hP3 I2.bare
    refine wpAny_builtinsFor (m := X.mg) (by rw [I2.ok.glob]; exact (I2.mod.glob.keeps I2.bk).extBut hx TB.gP) e1 e2 (keep3 _ _ e4 (I2.bk _ _ e5)) e6 e7 e8 ?_
    intro h' hn' hs'
    have tab : Tabbed P H2 (upd H2 P (.tbl (ps ++ more))) := ⟨⟨_, upd_same, ht3⟩, fun b hb => upd_ne hb⟩
    obtain ⟨n, pb, R, r0, go, stop, step, qf⟩ := q _ tab
    generalize upd H2 P (.tbl (ps ++ more)) = H3 at I3 r0 tab
    have e0 := I3.env0
    have sz' : h'.objs.size = h3.objs.size + 1 := by rw [hs'.1, Heap.size_push]
    have keep' : ∀ b o, h3.get? b = some o → h'.get? b = some o := fun b o e => hs'.extBut b o (Nat.ne_of_lt (Heap.lt_size e)) (Heap.get?_push_of_some _ e)
    have keep5 : ∀ (go : Obj) b o, h3.get? b = some o → (h'.push go).get? b = some o := fun go b o e => Heap.get?_push_of_some _ (keep' b o e)
    have fpAt : ∀ b ∈ fp, b < h3.objs.size := fun b hb => by
      obtain ⟨o, e, _⟩ := T.obj _ _ st2 b hb
      exact Nat.lt_of_lt_of_le (Heap.lt_size e) hsz
    have frAt : ∀ b ∈ frs X.stack, b < h3.objs.size := fun b hb => by
      obtain ⟨_, o, ho, _⟩ := e0.funs.mem hb
      exact Heap.lt_size ho
    have noP : ∀ b ∈ fp, H2 b = none := fun b hb => (f2 b hb).1
    have fr3 : ∀ b ∈ fp, H3 b = none := fun b hb => by
      rw [tab.2 b (fun z => by
        have := noP b hb
        rw [z, hP] at this
        cases this)]
      exact noP b hb
    refine hQ (gCx X (X.A.in1.in1.over (.compLoop (.GeneratorExp elt [⟨.Name x px, iter, [], 0⟩] scope gpos) 0 (.ref it) .none (genEnv scope [] h3.objs.size code builtinsNs X.env)) []) { s2 with heap := h3, toks := tk } H3 fp (genEnv scope [] h3.objs.size code builtinsNs X.env) x)
      fp tn R h'.objs.size (gObj s2.gens.size tk (X.env.qual ++ "<genexpr>")) n pb s2.gens.size _ rfl rfl (fun h e => ⟨_, _, _, e, rfl, rfl, rfl⟩) ⟨?gj, _, Array.getElem?_push_size .., fun s'' gj2 => ⟨rfl, ?st⟩⟩ (fun j s' z => ?bk) qf
    case gj =>
      refine ⟨H3, [none], ⟨⟨I3.ok.mod, S.kind, I3.ok.glob, rfl, Nat.le_refl _, fun y z c' h1 h2 => (by cases h1), fun y hy => ?_, fun y c' h1 => (by cases h1), fun _ => hr.hd, ?_, .inr ⟨rfl, rfl⟩, fun b hb => ⟨Nat.ne_of_lt (fpAt b hb), fun y c' h1 => (by cases h1)⟩, I3.bs, e0.bsz, fun b o' e hb => ?_, fun b hb => ?_, e0.funs, e0.frf⟩,
        rfl, I3.bare.push rfl, Un.kept (keep5 _), ⟨_, hn'.push _, fun i y v h1 h2 h3 => ?_⟩, fun y c' h1 => (by cases h1), I3.hok.fresh (Nat.le_refl _), fun y c' h1 => (by cases h1), fun p' hp' => ?_, I3.hok.kept (keep5 _), rfl⟩, T.keep _ _ _ st2 fun b hb o' e => keep5 _ _ _ (keep3 b o' ?_ e), fr3, r0⟩
      · rcases hy with hy | hy
        · exact absurd rfl (S.cell _ (PySem.mem_of_lookup hy))
        · exact absurd rfl (S.free _ (PySem.mem_of_lookup hy))
      · show pushEnvs [genEnv scope [] h3.objs.size code builtinsNs X.env] (pushEnvs (envsOf []) X.A.frames) = _
        rw [I3.ok.frames]
        rfl
      · rcases (f2 b hb).2.2.2.1 with z | z
        · exact I3.ok.noex b o' e z
        · have h1 := Heap.lt_size (I3.ok.bs b o' e).1
          exact absurd (Nat.lt_of_lt_of_le h1 z) (Nat.lt_irrefl _)
      · intro z
        rcases List.mem_cons.mp (I3.stkSub b z) with z | z
        · exact (f2 b hb).2.1 z
        · exact (f2 b hb).2.2.1 z
      · match i, h2 with
        | 0, h2 => cases h2
      · have ep : p' = (h'.objs.size, gObj s2.gens.size tk (X.env.qual ++ "<genexpr>")) := by simpa using hp'
        subst ep
        refine ⟨Heap.get?_push_size _ rfl, I3.hok.fresh (by show h3.objs.size ≤ h'.objs.size; omega), ?_, fun z => ?_, fun v z => by cases z⟩
        · show h'.objs.size ≠ h3.objs.size
          omega
        · have h1 := frAt _ z
          have h2 : h'.objs.size < h3.objs.size := h1
          omega
      · intro z
        have := noP b hb
        rw [z, hP] at this
        cases this
    case st =>
      refine seg_gstart (Y := gCx X (X.A.in1.in1.over (.compLoop (.GeneratorExp elt [⟨.Name x px, iter, [], 0⟩] scope gpos) 0 (.ref it) .none (genEnv scope [] h3.objs.size code builtinsNs X.env)) []) { s2 with heap := h3, toks := tk } H3 fp (genEnv scope [] h3.objs.size code builtinsNs X.env) x) (R := R) (te := te) ⟨rfl, rfl, fun _ _ z => z, T, rfl, S.loc, S.co, fun H hH b hb => ⟨hH b hb, Nat.ne_of_lt (fpAt b hb), fun z => ?_, .inl hb, fun y c' h1 => (by cases h1), fun p' hp' => ?_⟩, hel _ _ _ _ _ _ ?_, go, stop, step⟩ s'' gj2
      · rcases List.mem_cons.mp (I3.stkSub b z) with z | z
        · exact (f2 b hb).2.1 z
        · exact (f2 b hb).2.2.1 z
      · have ep : p' = (h'.objs.size, gObj s2.gens.size tk (X.env.qual ++ "<genexpr>")) := by simpa using hp'
        subst ep
        refine Nat.ne_of_gt (?_ : b < h'.objs.size)
        rw [sz']
        exact Nat.lt_succ_of_lt (fpAt b hb)
      · exact ⟨hr.hd, by have := hr.dp; show X.A.depth + 0 + 1 + 3 * k + 5 < _; omega, by have := hr.un; show X.A.units + 1 + 1 + 0 + 3 + 16 * k + 200 < _; omega⟩
    case bk =>
      obtain ⟨H', σ', I', r'⟩ := z
      refine ⟨H', I3.call' I'.os I'.base I'.hok I'.bare fun b hb => ?_, r'⟩
      obtain ⟨_, f1, _, f3, f4, f5⟩ := f2 b hb
      exact ⟨f3, f1, f4, f5⟩
  cases hf : codeAmong gpos ps.toList with
  | none =>
    refine wpAny_genexprCodeX hcode (cd.code hPs ht) (cd.tab hPs) hf fun c' h' tk hx hge hlt hco' _ htab' _ => ?_
    obtain ⟨o1, vs, f1, tf, fl, tg, inF, tx, tt, op, _, _, _, _, _, _, _, _, _, htr, _⟩ := hco'
    exact cont _ h' tk _ hx (Nat.le_trans hge (Nat.le_of_lt hlt)) htab'.2 ⟨_, rfl⟩ htr
  | some cv =>
    refine wpAny_genexprCode_hit hcode (cd.code hPs ht) hf ?_
    exact cont cv s2.heap s2.toks ps (Heap.ExtBut.refl _ _) (Nat.le_refl _) hPs ⟨#[], by simp⟩ ht
/-- all(e for x in row) -/
def tAllG (P : Addr) (wi : TI) (te : TE) : TE := fun σ H Q => wi σ H fun J H1 => TabG H1 P ∧ ∀ H2, Tabbed P H1 H2 → GTurns J te H2 fun n pb R => ∀ j H', R j H' → Q (.bl ((List.range n).all pb)) H'
theorem pe_allG (hr : Room (k + 1) X.A) (hg : Gl X "all") (hm : X.mg "all" = none) (hb : bootBuiltins "all" = some (.builtin "all")) (TB : TabB X.base X.mg c P) (hcode : X.env.code = .ref c) (S : GenN scope x) (hi : PI X (.Name x px) iter wi)
    (hel : ∀ (A' : Around) (s0 : Shared) (H0 : Hp) (fp : List Addr) (C : Addr) (code : Value), Room k A' → PE (gCx X A' s0 H0 fp (genEnv scope [] C code builtinsNs X.env) x) elt te)
    (hs : ∀ v, genFold iter X.env v = pure v)
    (he : starEach [.GeneratorExp elt [⟨.Name x px, iter, [], 0⟩] scope gpos] X.env = (false, eval (.GeneratorExp elt [⟨.Name x px, iter, [], 0⟩] scope gpos) X.env) :: starEach [] X.env := by rfl) :
    PE X (.Call (.Name "all" p) [.GeneratorExp elt [⟨.Name x px, iter, [], 0⟩] scope gpos] [] pos) (tAllG P wi te) := by
  refine ⟨fun pins s σ H Q I h => ?_⟩
  refine wpAny_Call_Name_kw (ld_blt I hg hm hb ?_)
  refine PyProof.Rows.callWith_builtin1 ?_ he (by rfl)
  rw [he]
  show wpAny _ _ (spliced ((false, eval (.GeneratorExp elt [⟨.Name x px, iter, [], 0⟩] scope gpos) X.env) :: backTo pos (starEach [] X.env))) _ _ s
  refine Calls.spliced_cons (gen_own hr TB hcode S hi hel hs I h fun Y fp tn R a o n pb g s5 hP hw ho r bk q => ?_)
  refine Calls.spliced_nil ?_
  have fin := call_all_g (A := X.A) (Q := EP X pins σ Q) (E := X.xe) hr.hd (by have := hr.dp; omega) ho r fun j s' _ z => by
    obtain ⟨H', I', r'⟩ := bk j s' z
    exact ⟨.bl _, H', I', rfl, q j H' r'⟩
  rw [hP, hw] at fin
  exact fin
end
end DR

set_option Elab.async false
set_option linter.all false
set_option maxRecDepth 100000
set_option maxHeartbeats 4000000
namespace DR
open PySem PySem.Spec PyProof.Rows L2
section
variable {P : Program} {w : World} {K : PySem.W.Frag} {mg : Str → Option Value} {base : Heap}
theorem ok_of {x q : Str} {st : Stmt} {N ps : List Str} {k : Nat} {sp : Sp} {f : Addr} {fd : FuncData} (F : FunD K x q (defArgs st) (defBody st) (defScope st) [] [] f fd) (S : FnScope N ps (defScope st)) (len : ∀ vs H Q E, sp vs H Q E → vs.length = ps.length)
    (body : ∀ (f : Addr) (cdv : Value) (A : Around) (outer : List Env) (s : Shared) (H : Hp) (vs : List V) (Q : VK) (E : XK), Room k (A.deeper (envOfC q (defScope st) s.heap.objs.size f cdv)) → sp vs H Q E →
      ∃ t, PSs (cxOf CX0 P w K mg base N q (defScope st) f cdv A outer s H E).nox (defBody st) t ∧ t { nx := fun _ H' => Q .non H', rt := Q } (start N vs) H) : FnOk P w K mg base CX0 (k + 1) f fd ps sp :=
  F.ok S len fun cdv A outer s H vs Q E hr h => (body f cdv A outer s H vs Q E hr h).imp fun t z => ⟨z.1.nox, z.2⟩
def spLaw (K : PySem.W.Frag) : Sp := fun vs H Q _ => ∃ (a : Addr) (ns : List Int), vs = [.ref a] ∧ ns.length ≤ 63 ∧ SqL K H a (ns.map V.int) ∧ ∀ H', Q (.bl true) H'
end
end DR

set_option Elab.async false
set_option linter.all false
set_option maxRecDepth 100000
set_option maxHeartbeats 4000000
/-! ### a list walked while an exception is handled -/
namespace DR
open PySem PySem.W PySem.Spec PyProof.Rows L2
open HotX (HotAt raiseNew_hot)
section
variable {prog : Program} {w : World} {A : Around} {E : Value → Shared → Prop} {s : Shared}
theorem hot_ne {x1 it l : Addr} {i : Nat} (hot : HotAt A x1 s.heap) (u : s.heap.IsListIter it l i) : x1 ≠ it := fun e => by
  obtain ⟨_, o, vs, h1, h2, h3⟩ := hot
  obtain ⟨o2, g1, _, g2⟩ := u
  rw [e, g1] at h1
  injection h1 with h1
  rw [h1, h2] at g2
  injection g2 with g2
  rw [g2] at h3
  cases h3
theorem list_end_hot {it l x1 : Addr} {i : Nat} {xs : Array Value} {Q : Option Value → Shared → Prop} (hot : HotAt A x1 s.heap) (u : s.heap.IsListIter it l i) (m : s.heap.IsList l xs) (e : xs[i]? = none)
    (q : ∀ h', (∀ b o, b ≠ it → s.heap.get? b = some o → h'.get? b = some o) → Q none { s with heap := h' }) : wpAny (model prog w) A (pyNext (.ref it)) Q E s := by
  have hne := hot_ne hot u
  obtain ⟨o, ho, hc, hd⟩ := id u
  obtain ⟨ol, hol, _, nl, hdl⟩ := m
  obtain ⟨hh, o1, vs1, g1, d1, c1⟩ := hot
  unfold pyNext
  refine wpAny_bind (wpAny_attempt (wpAny_callSpecial?_slot (name := Str.ofString "__next__") u.typeIs slot_listiter_next (wpAny_call_entry slot_listiter_next u.typeIs entry_listiter_next ?_ (args_listiter_next _))))
  show wpAny _ _ (field (.ref it) 0 >>= _) _ _ s
  refine wpAny_bind (wpAny_field ho hd (x := .ref l) rfl ?_)
  show wpAny _ _ (if (Value.ref l == Value.none) = true then _ else _) _ _ s
  rw [if_neg (by simp)]
  show wpAny _ _ (field (.ref it) 1 >>= _) _ _ s
  refine wpAny_bind (wpAny_field ho hd (x := .int i 0) rfl ?_)
  show wpAny _ _ (seqItems? (.ref l) >>= _) _ _ s
  refine wpAny_bind (wpAny_seqItems hol hdl ?_)
  simp only [Int.toNat_natCast, e]
  refine wpAny_bind (wpAny_rule (wpAny_bind (wpAny_setField ho hd (by simp) ?_)))
  show wpAny _ _ (newExc (.type "StopIteration") [] >>= _) _ _ _
  refine wpAny_bind ?_
  simp only [newExc, newTuple]
  refine wpAny_bind (wpAny_newObj_type ?_ (by size_fits))
  refine wpAny_bind (m := firstArgMember _ _) (wpAny_of_eq (a := Value.none) (by first | rfl | (simp only [firstArgMember]; rfl)) (wpAny_newObj_type ?_ (by size_fits)))
  have k1 : ∀ b ob, b ≠ it → s.heap.get? b = some ob → (s.heap.update it (Obj.mapFields fun x => x.setIfInBounds 0 Value.none)).get? b = some ob := fun b ob n h => (Heap.get?_update_other s.heap _ n.symm).trans h
  have k2 := Heap.get?_push_of_some { cls := Value.type "tuple", data := Data.seq #[] } (k1 x1 o1 hne g1)
  refine raiseNew_hot ⟨hh, o1, vs1, Heap.get?_push_of_some _ k2, d1, c1⟩ (Nat.ne_of_lt (Heap.lt_size k2)) (Heap.get?_push_size _ rfl) rfl (by rw [Array.size_append]; exact Nat.lt_of_lt_of_le (by decide : 2 < 6) (Nat.le_add_right 6 _)) ?_
  refine wpAny_bind (wpAny_isInstance (T := "StopIteration") (b := true) ⟨_, Heap.get?_update_self _ (Heap.get?_push_size _ rfl) rfl, rfl⟩ isSubtype_stop (wpAny_pure (q _ fun b ob n h => ?_)))
  have k3 := Heap.get?_push_of_some { cls := Value.type "tuple", data := Data.seq #[] } (k1 b ob n h)
  rw [Heap.get?_update_other _ _ (Nat.ne_of_gt (Heap.lt_size k3))]
  exact Heap.get?_push_of_some _ k3
end
/-- [elt for tg in xs] over a list, while an exception is handled: Pv by the turn and the store -/
def tLcHot (K : PySem.W.Frag) (ti : TE) (g : TG) (te : TE) (vs : List Nat) : TE := fun σ H Q => ti σ H fun v H1 => ∃ a xs, v = .ref a ∧ SqL K H1 a xs ∧ ∀ D, H1 D = none → ∃ Pv : Nat → Hp → Prop, Pv 0 (upd H1 D (.lst [])) ∧ (∀ i H, Pv i H → SqL K H a xs) ∧
  (∀ i x H, xs[i]? = some x → Pv i H → g x (wipe σ vs) H fun σ2 H2 => wipe σ2 vs = wipe σ vs ∧ te σ2 H2 fun y H3 => ∃ acc, H3 D = some (.lst acc) ∧ acc.length < sizeLine ∧ Pv (i + 1) (upd H3 D (.lst (acc ++ [y])))) ∧ ∀ H, Pv xs.length H → Q (.ref D) H
section
variable {X : Cx}
theorem pe_lcHot {elt tg iter : Expr} {scope : Scope} {own : List (Str × Nat)} {pos : Pos} {ti : TE} {g : TG} {te : TE} (hot : L2H.HotC X) (hN : X.N.Nodup) (hi : PE X iter ti) (ok : BlkOk X.N X.env.scope scope own)
    (hg : ∀ (s : Shared) (H : Hp) (C : Addr) (cl : List (Str × Addr)) (fp : List Addr), PG (X.blk s H scope (compEnvC scope cl C X.env) fp) tg g)
    (he : ∀ (s : Shared) (H : Hp) (C : Addr) (cl : List (Str × Addr)) (fp : List Addr), PE (X.blk s H scope (compEnvC scope cl C X.env) fp) elt te) (hs : ∀ x, foldedSetIterable iter X.env x = pure x := by intro _; rfl) :
    PE X (.ListComp elt [⟨tg, iter, [], 0⟩] scope pos) (tLcHot X.K ti g te (own.map (·.2))) := by
  refine ⟨fun pins s σ H Q I h => ?_⟩
  rw [eval_ListComp]
  have cap : ∀ y ∈ scope.names, y.2 = .free → ∃ c, X.env.cells.lookup y.1 = some c := fun y hy e => (ok.free y hy e).elim (fun k => I.ok.has _ (.inl k)) fun k => I.ok.has _ (.inr k)
  refine wpAny_comprehension_free rfl hs (closure_ok cap) ok.kind (fun y hy e => by rw [ok.uniq y hy, e]) (thn (hi.run pins s σ H _ I h) fun v s1 z => ?_)
  obtain ⟨x, H1, I1, r1, a, xs, rfl, hq, q⟩ := z
  cases r1
  obtain ⟨its, rv, pl, _⟩ := I1.list hq
  refine wpAny_pyIter_list pl.isList ?_
  have I2 : Inv X pins σ H1 { s1 with heap := s1.heap.push { cls := .type "list_iterator", data := .fields #[.ref a, .int 0 0] } } := I1.kept (t' := s1.toks) fun b o e => Heap.get?_push_of_some _ e
  have u2 : (s1.heap.push { cls := .type "list_iterator", data := .fields #[.ref a, .int 0 0] }).IsListIter s1.heap.objs.size a 0 := ⟨_, Heap.get?_push_size _ rfl, rfl, rfl⟩
  have ok2 : FpOk X pins H1 s1.heap.objs.size := I1.fpOk (Nat.le_refl _) (I1.hok.fresh (Nat.le_refl _))
  have sz2 : s1.heap.objs.size < (s1.heap.push { cls := .type "list_iterator", data := .fields #[.ref a, .int 0 0] }).objs.size := by
    rw [Heap.size_push]
    exact Nat.lt_succ_self _
  obtain ⟨pe1, ⟨hh, v1, dd, cc⟩, pm⟩ := hot
  have px : pe1.1 < s1.heap.objs.size := Heap.lt_size (I1.pin pe1 (List.mem_append_left _ pm)).1
  generalize s1.heap.objs.size = it at *
  generalize s1.heap.push { cls := .type "list_iterator", data := .fields #[.ref a, .int 0 0] } = g2 at *
  refine wpAny_newObj_type (newEnv_comp ?_) (by show 0 ≤ sizeLine; decide)
  obtain ⟨Pv, w0, wq, wt, wd⟩ := q g2.objs.size (I2.hok.fresh (Nat.le_refl _))
  have I3 : Inv X pins σ (upd H1 g2.objs.size (.lst [])) { s1 with heap := g2.push { cls := .type "list", data := .seq ([] : List Value).toArray } } :=
    I2.laid (t' := s1.toks) (fun b o e => Heap.get?_push_of_some _ e) (Nat.le_refl _) ⟨Nat.zero_le _, [], 0, .nil, Heap.get?_push_size _ rfl⟩
  have u3 : (g2.push { cls := .type "list", data := .seq ([] : List Value).toArray }).IsListIter it a 0 := u2.at fun o e => Heap.get?_push_of_some _ e
  have ok3 : FpOk X pins (upd H1 g2.objs.size (.lst [])) it := ⟨by rw [upd_ne (Nat.ne_of_lt sz2)]; exact ok2.1, ok2.2⟩
  have sz3 : it < (g2.push { cls := .type "list", data := .seq ([] : List Value).toArray }).objs.size := by
    rw [Heap.size_push]
    exact Nat.lt_succ_of_lt sz2
  generalize g2.objs.size = D at *
  generalize upd H1 D (.lst []) = H3 at *
  generalize hs3 : ({ s1 with heap := g2.push { cls := .type "list", data := .seq ([] : List Value).toArray } } : Shared) = s3 at *
  have u3 : s3.heap.IsListIter it a 0 := by
    rw [← hs3]
    exact u3
  have sz3 : it < s3.heap.objs.size := by
    rw [← hs3]
    exact sz3
  have I4 := block_start I3 ok hN (fp := [it]) fun b hb => by
    rw [List.mem_singleton.mp hb]
    exact ⟨ok3, sz3⟩
  have pg := hg s3 H3 s3.heap.objs.size (cellsFrom (s3.heap.objs.size + 1) scope.names (cloFrom X.env.cells scope.names [])) [it]
  have pe := he s3 H3 s3.heap.objs.size (cellsFrom (s3.heap.objs.size + 1) scope.names (cloFrom X.env.cells scope.names [])) [it]
  show codeAny _ _ (.compStart (.ListComp elt [⟨tg, iter, [], 0⟩] scope pos) 0 (.ref it) (.ref D) (compEnvC scope (cellsFrom (s3.heap.objs.size + 1) scope.names (cloFrom X.env.cells scope.names [])) s3.heap.objs.size X.env)) _ { s3 with heap := pushCells (s3.heap.push { cls := .type "dict", data := .dict #[] }) scope.names }
  have ceL : (compEnvC scope (cellsFrom (s3.heap.objs.size + 1) scope.names (cloFrom X.env.cells scope.names [])) s3.heap.objs.size X.env).locals = s3.heap.objs.size := rfl
  generalize compEnvC scope (cellsFrom (s3.heap.objs.size + 1) scope.names (cloFrom X.env.cells scope.names [])) s3.heap.objs.size X.env = ce at I4 pg pe ceL ⊢
  have u4 : ({ s3 with heap := pushCells (s3.heap.push { cls := .type "dict", data := .dict #[] }) scope.names } : Shared).heap.IsListIter it a 0 := u3.at fun o e => pushCells_keeps _ _ _ _ (Heap.get?_push_of_some _ e)
  generalize ({ s3 with heap := pushCells (s3.heap.push { cls := .type "dict", data := .dict #[] }) scope.names } : Shared) = s4 at I4 u4 ⊢
  -- the handled exception stands in the block, too
  have hotB : ∀ {σ' : L2.St} {H' : Hp} {s' : Shared}, Inv (X.blk s3 H3 scope ce [it]) [] σ' H' s' → HotAt X.A pe1.1 s'.heap := fun {σ' H' s'} J => by
    obtain ⟨e1, e2, _⟩ := I3.pin pe1 (List.mem_append_left _ pm)
    obtain ⟨sl, e3⟩ := J.base.any e1 e2 (by simp; exact Nat.ne_of_lt px)
    exact ⟨hh, _, v1, e3, dd, cc⟩
  have fpB : ∀ {σ' : L2.St} {H' : Hp} {s' : Shared}, Inv (X.blk s3 H3 scope ce [it]) [] σ' H' s' → H' it = none → FpOk (X.blk s3 H3 scope ce [it]) [] H' it := fun {σ' H' s'} J hn =>
    have hm : it ∈ (X.blk s3 H3 scope ce [it]).ex := List.mem_singleton.mpr rfl
    ⟨hn, (J.ok.exf it hm).1, J.ok.exfs it hm, .inl hm, fun x c e => (J.ok.exf it hm).2 x c e, fun p hp => absurd hp (by simp)⟩
  have loop : ∀ R, (∀ H' s', Inv (X.blk s3 H3 scope ce [it]) [] (wipe σ (own.map (·.2))) H' s' → Pv xs.length H' → R (.ok .next) s') → codeAny (model X.prog X.w) X.A (.compLoop (.ListComp elt [⟨tg, iter, [], 0⟩] scope pos) 0 (.ref it) (.ref D) ce) R s4 := fun R fin => by
    refine compLoop_any (fun n s' => ∃ i H', n = xs.length - i ∧ i ≤ xs.length ∧ Inv (X.blk s3 H3 scope ce [it]) [] (wipe σ (own.map (·.2))) H' s' ∧ s'.heap.IsListIter it a i ∧ H' it = none ∧ Pv i H') ?_ xs.length ⟨0, H3, rfl, Nat.zero_le _, I4, u4, ok3.1, w0⟩
    rintro n s5 ⟨i, H5, rfl, hle, I5, u5, n5, w5⟩
    obtain ⟨its5, rv5, pl5, _⟩ := I5.list (wq i H5 w5)
    have l5 := rv5.length
    have f5 := fpB I5 n5
    obtain ⟨f50, f51, f52, f53, f54, f55⟩ := f5
    by_cases hlt : i < xs.length
    · obtain ⟨y, hy⟩ : ∃ y, xs[i]? = some y := ⟨xs[i], List.getElem?_eq_getElem hlt⟩
      obtain ⟨u, hu, ru⟩ := rv5.get hy
      refine wpAny_pyNext_list_item u5 pl5.isList (x := u) (by simpa using hu) fun h6 u6 sb => ?_
      have I6 : Inv (X.blk s3 H3 scope ce [it]) [] (wipe σ (own.map (·.2))) H5 { s5 with heap := h6 } := I5.turned (t' := s5.toks) (fun b o hb e => (sb.2 b hb).trans e) f50 f51 f53 f54 f55
      obtain ⟨o6, e6, c6, d6⟩ := id u6
      refine go_of (s := { s5 with heap := h6 }) e6 c6 d6 (by decide) ?_
      have I7 := I6.pinned (fp := [it]) (fun b hb => by
        rw [List.mem_singleton.mp hb]
        exact fpB I6 n5) (fun b hb => by
        rw [List.mem_singleton.mp hb]
        exact ⟨o6, e6, fun v z => by rw [d6] at z; cases z⟩)
      refine thnF (pg.run _ { s5 with heap := h6 } _ H5 y u _ I7 ru (wt i y H5 hy w5)) fun _ s8 ⟨σ8, H8, I8, hw8, q8⟩ => ?_
      refine thnF ((pts_nil (X := X.blk s3 H3 scope ce [it])).run _ s8 σ8 H8 (fun b H9 => b = true ∧ H9 = H8) I8 ⟨rfl, rfl⟩) fun b s9 ⟨H9, I9, eb, eH⟩ => ?_
      subst eb eH
      simp only [if_true]
      refine thnF (pe.run _ s9 σ8 H9 _ I9 q8) fun z s10 ⟨yv, H10, I10, r10, acc, hD, hz, nx⟩ => ?_
      refine app_ok (X := X.blk s3 H3 scope ce [it]) I10 hD hz r10 fun s11 I11 => ?_
      obtain ⟨k1, k2, _⟩ := I11.pin (it, o6) (List.mem_append_right _ (List.mem_append_right _ (mem_pinsAt (List.mem_singleton.mpr rfl) e6)))
      have ll : (wipe σ (own.map (·.2))).length = σ8.length := by rw [← hw8, wipe_length]
      refine ⟨xs.length - (i + 1), by omega, i + 1, _, rfl, hlt, (I11.unpinned (pins := [])).weak ll (fun j v e => ?_), ⟨o6, k1, c6, d6⟩, k2, nx⟩
      rw [← hw8] at e
      exact (wipe_some e).1
    · have e : i = xs.length := by omega
      subst e
      refine list_end_hot (hotB I5) u5 pl5.isList (by simp; omega) fun h6 k => ?_
      exact fin H5 _ (I5.turned (t' := s5.toks) (fun b o hb e => k b o hb e) f50 f51 f53 f54 f55) w5
  refine codeAny_compStart_list ?_ (wpAny_pyIter_listiter u4 ?_)
  all_goals
    refine loop _ fun H' s' J w => ?_
    have back : Inv X pins σ H' s' := I3.call' (ch := [it]) J.os J.base J.hok J.bare fun b hb => by
      rw [List.mem_singleton.mp hb]
      exact ⟨ok3.2.2.2.1, ok3.2.1, ok3.2.2.2.2.1, ok3.2.2.2.2.2⟩
    obtain ⟨m, hn, _⟩ := J.loc
    have hn : s'.heap.Ns ce.locals m := hn
    have nC : H' ce.locals = none := J.free
    rw [ceL] at hn nC
    obtain ⟨f0, f1, f2, f3, f4, f5⟩ := I3.fpOk (Nat.le_refl _) nC
    exact ⟨m, hn, fun h2 sb => ⟨.ref D, H', back.turned (t' := s'.toks) (fun b o hb e => (sb.2 b hb).trans e) f0 f1 f3 f4 f5, rfl, wd H' w⟩⟩
end
end DR

set_option Elab.async false
set_option linter.all false
set_option maxRecDepth 100000
set_option maxHeartbeats 4000000
/-! ### a def called in an except suite, the exception among its arguments -/
namespace DR
open PySem PySem.Spec PyProof.Rows L2
open L2H (RoomH Hot1 PinOk cxH HotC)
/-- a promise that knows the exception: where it stands, its class, its dict -/
abbrev SpX := Addr → Value → Option Addr → Sp
structure FnX (P : Program) (w : World) (K : PySem.W.Frag) (mg : Str → Option Value) (base : Heap) (k : Nat) (f : Addr) (fd : FuncData) (ps : List Str) (sp : SpX) : Prop where
  len : ∀ a c d vs H Q E, sp a c d vs H Q E → vs.length = ps.length
  run : ∀ (A : Around) (outer : List Env) (s : Shared) (H : Hp) (args : Args) (us : List Value) (vs : List V) (Q : VK) (E : XK) (p : Addr × Obj) (c : Value) (d : Option Addr), RoomH k A → Hot1 A p → Zc c d p.2 → PinOk outer H s p → Env0 P w K mg base A outer s H → BindsTo s fd args (ps.zip us) → Vals vs us → sp p.1 c d vs H Q E →
    codeAny (model P w) A (.call (.ref f) args) (CR CX0 outer P w H s Q E) s
theorem FunD.okX {P : Program} {w : World} {K : PySem.W.Frag} {mg : Str → Option Value} {base : Heap} {x q : Str} {st : Stmt} {N ps : List Str} {k : Nat} {sp : SpX} {f : Addr} {fd : FuncData} (F : FunD K x q (defArgs st) (defBody st) (defScope st) [] [] f fd) (S : FnScope N ps (defScope st))
    (len : ∀ a c d vs H Q E, sp a c d vs H Q E → vs.length = ps.length)
    (body : ∀ (f : Addr) (cdv : Value) (A : Around) (outer : List Env) (s : Shared) (H : Hp) (vs : List V) (Q : VK) (E : XK) (p : Addr × Obj) (c : Value) (d : Option Addr), Hot1 A p → Zc c d p.2 → RoomH k (A.deeper (envOfC q (defScope st) s.heap.objs.size f cdv)) → sp p.1 c d vs H Q E →
      ∃ t, PSs (cxH CX0 P w K mg base N q (defScope st) f cdv A outer s H E p) (defBody st) t ∧ t { nx := fun _ H' => Q .non H', rt := Q } (L2.start N vs) H) : FnX P w K mg base (k + 1) f fd ps sp := by
  obtain ⟨oc, od, dV, kV, doc, pm, an, cdv, ct, osl, rfl, lk, hcd, _, _⟩ := F.ex
  refine ⟨len, fun A outer s H args us vs Q E p c d hr hot zc hpin e0 hb r hsp => ?_⟩
  have ln := len _ _ _ _ _ _ _ hsp
  have kin : K.In s.heap := e0.mod.kin.keeps fun b o e => (e0.bs b o e).1
  have lim : s.heap.NoLimit := e0.mod.nolimit.keeps fun b o e => (e0.bs b o e).1
  have kinds : ∀ y ∈ ps.zip us, (defScope st).names.lookup y.1 = some .local ∨ ((defScope st).names.lookup y.1 = some .cell ∧ ((cellsFrom (s.heap.objs.size + 1) (defScope st).names []).lookup y.1).isSome = true) := fun y hy =>
    (S.par y.1 (List.of_mem_zip (a := y.1) (b := y.2) hy).1).imp id fun t => ⟨t, PySem.W.cellsFrom_some _ _ _ (.inl t)⟩
  refine codeAny_call_function hr.depth (kin _ _ lk) rfl S.co S.gen rfl (PySem.W.codeRec_of kin hcd) (hb _ _ _ _ (wpAny_newFunctionEnv_cells S.kind kinds fun env he s1 x => ?_))
  subst he
  refine ⟨lim.keeps x.toInCall.keep, codeAny_func ?_⟩
  obtain ⟨t, ht, go⟩ := body f cdv A outer s H vs Q E p c d hot zc (hr.deeper _) hsp
  refine wpAny_mono (ht.run [] s1 (L2.start N vs) H _ (L2H.inv_startH S hpin e0 ln r x) go) (fun fl s' z => ?_) fun _ _ z => z
  cases fl with
  | ret u =>
    obtain ⟨v, σ', H', J, rv, qv⟩ := z
    exact ⟨v, H', J.os, J.bare, J.base, J.hok, rv, qv⟩
  | next =>
    obtain ⟨σ', H', J, qv⟩ := z
    exact ⟨V.non, H', J.os, J.bare, J.base, J.hok, rfl, qv⟩
  | brk => exact z.elim fun _ z => z.elim fun _ z => z.2.elim
  | cont => exact z.elim fun _ z => z.elim fun _ z => z.2.elim
/-- called by its name, it keeps sp -/
def HasX (P : Program) (w : World) (K : PySem.W.Frag) (mg : Str → Option Value) (base : Heap) (k : Nat) (x : Str) (ps : List Str) (sp : SpX) : Prop :=
  ∃ f fd, mg x = some (.ref f) ∧ PySem.W.keepIn K (.ref f) = true ∧ FnX P w K mg base k f fd ps sp ∧ L2.Binds K fd ps []
theorem hasX_of {P : Program} {w : World} {K : PySem.W.Frag} {mg : Str → Option Value} {base : Heap} {x : Str} {st : Stmt} {N ps : List Str} {k : Nat} {sp : SpX} (D : IsDef K mg x st) (S : FnScope N ps (defScope st)) (B : Takes0 x x st ps) (len : ∀ a c d vs H Q E, sp a c d vs H Q E → vs.length = ps.length)
    (body : ∀ (f : Addr) (cdv : Value) (A : Around) (outer : List Env) (s : Shared) (H : Hp) (vs : List V) (Q : VK) (E : XK) (p : Addr × Obj) (c : Value) (d : Option Addr), Hot1 A p → Zc c d p.2 → RoomH k (A.deeper (envOfC x (defScope st) s.heap.objs.size f cdv)) → sp p.1 c d vs H Q E →
      ∃ t, PSs (cxH CX0 P w K mg base N x (defScope st) f cdv A outer s H E p) (defBody st) t ∧ t { nx := fun _ H' => Q .non H', rt := Q } (L2.start N vs) H) : HasX P w K mg base (k + 1) x ps sp := by
  obtain ⟨f, fd, F, g⟩ := D
  exact ⟨f, fd, g, F.kp, FunD.okX F S len body, F.bindsN B⟩
section
variable {X : Cx} {x : Str} {q pos : Pos} {e : Expr} {es : List Expr} {t : TA} {k j : Nat} {ps : List Str} {sp : SpX} {a : Addr} {oe : Obj} {cls : Value} {d : Option Addr} {pn : List (Addr × Obj)}
/-- f(..) in the suite -/
def tCallX (sp : SpX) (a : Addr) (cls : Value) (d : Option Addr) (t : TA) : TE := fun σ H Q => t σ H fun vs H1 => sp a cls d vs H1 Q E0
theorem hot_suite (z : L2N.Zn cls d oe) (hf : ∃ vs, oe.data = .fields vs) : Hot1 (X.suite a ((a, oe) :: pn)).A (a, oe) := by
  obtain ⟨vs, hv⟩ := hf
  exact ⟨rfl, vs, hv, z.2.2 vs hv⟩
theorem pe_hasX (h : HasX X.prog X.w X.K X.mg X.base k x ps sp) (hr : Room j X.A) (l : k ≤ j) (z : L2N.Zn cls d oe) (hf : ∃ vs, oe.data = .fields vs) (hg : Gl X x) (ha : PA (X.suite a ((a, oe) :: pn)) (e :: es) t)
    (hdb : (x == ("__debug__" : Str)) = false := by decide) (hs : starEach (e :: es) X.env = (false, eval e X.env) :: starEach es X.env := by rfl) (hpl : (backTo pos (starEach es X.env)).any (·.1) = false := by rfl) :
    PE (X.suite a ((a, oe) :: pn)) (.Call (.Name x q) (e :: es) [] pos) (tCallX sp a cls d t) := by
  obtain ⟨f, fd, hm, hk, F, hb⟩ := h
  refine ⟨fun pins s σ H Q I w => ?_⟩
  refine wpAny_Call_Name_kw (ld_glob (X := X.suite a ((a, oe) :: pn)) I hg hm ?_ hdb)
  refine PySem.W.callWith_K (h₀ := X.base) I.ok.mod.kin hk (thn (ha.run pos pins s σ H _ I w) fun us s1 ⟨vs, H1, I1, r, y⟩ => ⟨I1.kIn, ?_⟩) hs hpl
  have ln : us.length = ps.length := by
    rw [← r.length]
    exact F.len _ _ _ _ _ _ _ y
  have b := hb s1 us I1.kIn (by rw [List.append_nil]; exact ln)
  rw [List.append_nil] at b
  have p1 := I1.pin (a, oe) (List.mem_append_left _ List.mem_cons_self)
  have pin : PinOk (X.suite a ((a, oe) :: pn)).stack H1 s1 (a, oe) := ⟨p1.1, p1.2.1, fun m => (List.mem_cons.mp (I1.stkSub a m)).elim p1.2.2.1 p1.2.2.2.1, p1.2.2.2.2⟩
  refine wpAny_call (codeAny_mono (F.run (X.suite a ((a, oe) :: pn)).A (X.suite a ((a, oe) :: pn)).stack s1 H1 ⟨us, []⟩ us vs Q E0 (a, oe) cls d ⟨by have := hr.dp; show X.A.depth + 3 * k + 5 < _; omega, by have := hr.un; show X.A.units + 16 * k + 200 < _; omega⟩ (hot_suite z hf) z.zc pin I1.env0 b r y) fun rs s' hq => ?_)
  cases rs with
  | error e => exact hq.elim
  | ok fl =>
    cases fl with
    | ret u => exact I1.after hq
    | next => exact hq.elim
    | brk => exact hq.elim
    | cont => exact hq.elim
end
end DR

set_option Elab.async false
set_option linter.all false
set_option maxRecDepth 100000
set_option maxHeartbeats 4000000
/-! ### defs that may raise -/
namespace DR
open PySem PySem.Spec PyProof.Rows L2
def HasE (P : Program) (w : World) (K : PySem.W.Frag) (mg : Str → Option Value) (base : Heap) (k : Nat) (x : Str) (ps : List Str) (sp : Sp) : Prop :=
  ∃ f fd, mg x = some (.ref f) ∧ PySem.W.keepIn K (.ref f) = true ∧ FnOk P w K mg base (L2N.CX P w) k f fd ps sp ∧ L2.Binds K fd ps []
section
variable {P : Program} {w : World} {K : PySem.W.Frag} {mg : Str → Option Value} {base : Heap}
theorem has_ofE {x : Str} {st : Stmt} {N ps : List Str} {k : Nat} {sp : Sp} (D : IsDef K mg x st) (S : FnScope N ps (defScope st)) (B : Takes0 x x st ps) (len : ∀ vs H Q E, sp vs H Q E → vs.length = ps.length)
    (body : ∀ (f : Addr) (cdv : Value) (A : Around) (outer : List Env) (s : Shared) (H : Hp) (vs : List V) (Q : VK) (E : XK), Room k (A.deeper (envOfC x (defScope st) s.heap.objs.size f cdv)) → sp vs H Q E →
      ∃ t, PSs (cxOf (L2N.CX P w) P w K mg base N x (defScope st) f cdv A outer s H E) (defBody st) t ∧ t { nx := fun _ H' => Q .non H', rt := Q } (start N vs) H) : HasE P w K mg base (k + 1) x ps sp := by
  obtain ⟨f, fd, F, g⟩ := D
  exact ⟨f, fd, g, F.kp, F.ok S len fun cdv A outer s H vs Q E hr h => body f cdv A outer s H vs Q E hr h, F.bindsN B⟩
theorem HasE.weak {k : Nat} {x : Str} {ps : List Str} {sp sp' : Sp} (h : HasE P w K mg base k x ps sp) (l : ∀ vs H Q E, sp' vs H Q E → sp vs H Q E) : HasE P w K mg base k x ps sp' := by
  obtain ⟨f, fd, h1, h2, h3, h4⟩ := h
  exact ⟨f, fd, h1, h2, h3.imp l, h4⟩
end
section
variable {X : Cx} {e : Expr} {es : List Expr} {t : TA} {x : Str} {p pos : Pos} {k j : Nat} {ps : List Str} {sp : Sp} {W : WX}
/-- f(..) that may raise: W is what is wished of the exception -/
theorem pe_hasE (h : HasE X.prog X.w X.K X.mg X.base k x ps sp) (hr : Room j X.A) (l : k ≤ j) (tk : L2N.Takes X W) (hg : Gl X x) (ha : PA X (e :: es) t)
    (hdb : (x == ("__debug__" : Str)) = false := by decide) (he : starEach (e :: es) X.env = (false, eval e X.env) :: starEach es X.env := by rfl) (hpl : (backTo pos (starEach es X.env)).any (·.1) = false := by rfl) :
    PE X (.Call (.Name x p) (e :: es) [] pos) (tCallS sp (WE W) t) := by
  obtain ⟨f, fd, h1, h2, h3, h4⟩ := h
  exact pe_callS h3 (hr.mono l) hg h1 h2 h4 (fun σ => L2N.passAt tk σ) ha hdb he hpl
end
/-- what the text says of an exception class without own __init__ -/
structure OwnX (K : PySem.W.Frag) (mg : Str → Option Value) (x : Str) (C : Addr) : Prop where
  q : PySem.W.excIn K C He.veBase "ValueError.__new__" = true
  g : mg x = some (.ref C)
  k : PySem.W.keepIn K (.ref C) = true
  s : PySem.W.subIn K (.ref C) (.type "BaseException") = some true
  t : PySem.W.typeIn K (.ref C) = some (.type "type")
theorem ps_own {X : Cx} {W : WX} {x m : Str} {C : Addr} {j : Nat} {p p2 pos pos2 : Pos} (hc : X.calm = true) (tk : L2N.Takes X W) (o : OwnX X.K X.mg x C) (hg : Gl X x) (hdb : (x == ("__debug__" : Str)) = false := by decide) :
    PS X (.Raise (some (.Call (.Name x p) [.Constant (.str m) j p2] [] pos)) none pos2) (fun _ σ H => W (.ref C) none σ H) :=
  L2N.ps_raise hc tk (L2N.pmk_own PySem.F.excBase_ValueError o.q o.g o.k (raises_own o.s o.t) hg hdb)
end DR

set_option Elab.async false
set_option linter.all false
set_option maxRecDepth 100000
set_option maxHeartbeats 4000000
/-! ### lambdas that are kept -/
namespace DR
open PySem PySem.Spec PyProof.Rows L2
open LamX (CodeO TabS TabB LamS)
/-- a lambda: its words, the cells that it captured, its code object -/
structure LF where
  pms : Arguments
  bd : Expr
  sc : Scope
  cl : List (Str × Addr)
  q : Str
  c : Addr
abbrev LF.obj (F : LF) (pm ctv : Value) : Obj := PySem.W.kla_obj "<lambda>" F.q F.pms F.bd F.sc F.cl pm F.c ctv
def LamO (f : Addr) (F : LF) : HO := .ext fun h => ∃ pm ctv, h.get? f = some (F.obj pm ctv)
theorem lamO_at {P : Program} {w : World} {H : Hp} {h : Heap} {f : Addr} {F : LF} (hok : HOk P w H h) (e : H f = some (LamO f F)) : ∃ pm ctv, h.get? f = some (F.obj pm ctv) := (hok f _ e).1
theorem codeO_rec {P : Program} {w : World} {H : Hp} {h : Heap} {c : Addr} {q : Str} (hok : HOk P w H h) (e : H c = some (CodeO c q)) : ∃ oc vs t, h.get? c = some oc ∧ oc.data = .fields vs ∧ vs[1]? = some (.str q t) := (hok c _ e).1
/-- all but tables stand as they stood -/
def SameN (H H' : Hp) : Prop := ∀ b o, H b = some o → (∀ ps, o ≠ .tbl ps) → H' b = some o
theorem lamO_no (f : Addr) (F : LF) (ps : Array Value) : LamO f F ≠ .tbl ps := fun z => by
  unfold LamO at z
  cases z
theorem codeO_no (c : Addr) (q : Str) (ps : Array Value) : CodeO c q ≠ .tbl ps := fun z => by
  unfold CodeO at z
  cases z
section
variable {X : Cx} {pins : List (Addr × Obj)} {σ : L2.St} {H : Hp} {s : Shared}
theorem lam_track {F : LF} {pm ctv : Value} {t' : Nat} (I : Inv X pins σ H s) : Inv X pins σ (upd H s.heap.objs.size (LamO s.heap.objs.size F)) { s with heap := s.heap.push (F.obj pm ctv), toks := t' } :=
  I.laid (fun b u e => Heap.get?_push_of_some _ e) (Nat.le_refl _) ⟨⟨pm, ctv, Heap.get?_push_size _ rfl⟩, ⟨_, Heap.get?_push_size _ rfl⟩, fun h1 h2 ⟨pm, ctv, z⟩ st => ⟨pm, ctv, st _ z⟩⟩
def tLamO (X : Cx) (P : Addr) (params : Arguments) (body : Expr) (scope : Scope) : TE := fun σ H Q => TabS H P (X.env.qual ++ "<lambda>") ∧
  ∀ f c' H1, SameN H H1 → (∀ b, H1 b = none → H b = none) → TabS H1 P (X.env.qual ++ "<lambda>") → H f = none → H1 f = some (LamO f ⟨params, body, scope, cloFrom X.env.cells scope.names [], X.env.qual ++ "<lambda>", c'⟩) → H1 c' = some (CodeO c' (X.env.qual ++ "<lambda>")) → Q (.ref f) H1
theorem pe_lam {c P : Addr} {params : Arguments} {body : Expr} {scope : Scope} {pos : Pos} (TB : TabB X.base X.mg c P) (hcode : X.env.code = .ref c) (L : LamS X.env.scope scope) (hdef : defaultsOf params X.env = ([], [])) :
    PE X (.Lambda params body scope pos) (tLamO X P params body scope) := by
  refine ⟨fun pins s σ H Q I h => ?_⟩
  obtain ⟨⟨ps, hP, tri, among⟩, q⟩ := h
  have cells := L.has I.ok
  have tabP : s.heap.get? P = some { cls := .none, data := .fields ps } := I.hok P _ hP
  have bmP : s.heap.BuiltinsAt X.mg P := TB.bm.keeps I.bk
  apply PySem.W.kla_eval hdef
  cases found : codeAmong pos ps.toList with
  | some cv =>
    obtain ⟨c', rfl, known⟩ := among pos cv found
    refine PySem.W.kla_makeFunctionHit (mg := X.mg) (c := c) (P := P) (ps := ps) (closure_ok cells) I.ok.glob (I.mod.glob.keeps I.bk) hcode (TB.code.keeps I.bk) tabP tri found bmP ?_
    intro ctv h2 tk old more
    have I2 : Inv X pins σ H { s with heap := h2, toks := s.toks } := I.kept old
    have nf : H h2.objs.size = none := I.hok.fresh more
    have I3 := lam_track (F := ⟨params, body, scope, cloFrom X.env.cells scope.names [], X.env.qual ++ "<lambda>", c'⟩) (pm := (X.mg "__name__").getD .none) (ctv := ctv) (t' := tk) I2
    have keep : ∀ b o, H b = some o → upd H h2.objs.size (LamO h2.objs.size ⟨params, body, scope, cloFrom X.env.cells scope.names [], X.env.qual ++ "<lambda>", c'⟩) b = some o := fun b o e => by
      rw [upd_ne (ne_of_none e nf)]
      exact e
    exact ⟨.ref h2.objs.size, _, I3, rfl, q _ c' _ (fun b o e _ => keep b o e) (fun b e => by
      cases z : H b with
      | none => rfl
      | some o =>
        rw [keep b o z] at e
        cases e) (TabS.ext ⟨ps, hP, tri, among⟩ keep) nf upd_same (keep _ _ known)⟩
  | none =>
    refine PySem.W.kla_makeFunction (mg := X.mg) (c := c) (P := P) (ps := ps) (closure_ok cells) I.ok.glob (I.mod.glob.keeps I.bk) hcode (TB.code.keeps I.bk) tabP tri found TB.gP bmP ?_
    intro c' ctv h2 tk old new lt rec tab2
    obtain ⟨c2, oc, vs, t, e2, r1, r2, r3⟩ := rec
    obtain rfl : c' = c2 := by
      injection e2
    have nc : H c' = none := I.hok.fresh new
    have I2 : Inv X pins σ (upd (upd H P (.tbl (ps ++ #[rawInt pos.line, rawInt pos.col, .ref c']))) c' (CodeO c' (X.env.qual ++ "<lambda>"))) { s with heap := h2, toks := s.toks } :=
      LamX.inv_table I hP (fun b o nb e => old b o nb e) tab2 new ⟨oc, vs, t, r1, r2, r3⟩
    have pc : P ≠ c' := ne_of_none hP nc
    have keep : SameN H (upd (upd H P (.tbl (ps ++ #[rawInt pos.line, rawInt pos.col, .ref c']))) c' (CodeO c' (X.env.qual ++ "<lambda>"))) := fun b o e no => by
      have bP : b ≠ P := fun z => no ps (by
        rw [z, hP] at e
        exact (Option.some.inj e).symm)
      rw [upd_ne (ne_of_none e nc), upd_ne bP]
      exact e
    have tb : TabS (upd (upd H P (.tbl (ps ++ #[rawInt pos.line, rawInt pos.col, .ref c']))) c' (CodeO c' (X.env.qual ++ "<lambda>"))) P (X.env.qual ++ "<lambda>") := by
      have el : (ps ++ #[rawInt pos.line, rawInt pos.col, .ref c']).toList = ps.toList ++ [rawInt pos.line, rawInt pos.col, .ref c'] := by simp
      refine ⟨_, (upd_ne pc).trans upd_same, ?_, fun p2 cv hcv => ?_⟩
      · rw [el]
        exact PySem.TriplesOk_snoc _ _ _ _ tri
      · rw [el] at hcv
        rcases LamX.among_app _ tri hcv with z | z
        · obtain ⟨c0, g1, g2⟩ := among p2 cv z
          exact ⟨c0, g1, keep _ _ g2 (codeO_no c0 _)⟩
        · exact ⟨c', z, upd_same⟩
    have nf := I2.hok.fresh (Nat.le_refl h2.objs.size)
    have kc : upd (upd H P (.tbl (ps ++ #[rawInt pos.line, rawInt pos.col, .ref c']))) c' (CodeO c' (X.env.qual ++ "<lambda>")) c' = some (CodeO c' (X.env.qual ++ "<lambda>")) := upd_same
    have I3 := lam_track (F := ⟨params, body, scope, cloFrom X.env.cells scope.names [], X.env.qual ++ "<lambda>", c'⟩) (pm := (X.mg "__name__").getD .none) (ctv := ctv) (t' := tk) I2
    have there : ∀ b, upd (upd H P (.tbl (ps ++ #[rawInt pos.line, rawInt pos.col, .ref c']))) c' (CodeO c' (X.env.qual ++ "<lambda>")) b = none → H b = none := fun b e => by
      have e1 := none_upd e
      by_cases z : b = P
      · have e2 := e1.2
        rw [z, upd_same] at e2
        cases e2
      · rw [← e1.2, upd_ne z]
    generalize upd (upd H P (.tbl (ps ++ #[rawInt pos.line, rawInt pos.col, .ref c']))) c' (CodeO c' (X.env.qual ++ "<lambda>")) = H2 at I2 keep tb nf I3 kc there
    have keep2 : ∀ b o, H2 b = some o → upd H2 h2.objs.size (LamO h2.objs.size ⟨params, body, scope, cloFrom X.env.cells scope.names [], X.env.qual ++ "<lambda>", c'⟩) b = some o := fun b o e => by
      rw [upd_ne (ne_of_none e nf)]
      exact e
    exact ⟨.ref h2.objs.size, _, I3, rfl, q _ c' _ (fun b o e no => keep2 b o (keep b o e no)) (fun b e => there b (none_upd e).2) (TabS.ext tb keep2) (I.hok.fresh (by omega)) upd_same (keep2 _ _ kc)⟩
end
end DR

set_option Elab.async false
set_option linter.all false
set_option maxRecDepth 100000
set_option maxHeartbeats 4000000
/-! ### a law that makes lambdas -/
namespace DR
open PySem PySem.Spec PyProof.Rows L2
section
variable {P : Program} {w : World} {K : PySem.W.Frag} {mg : Str → Option Value} {base : Heap}
theorem ok_ofT {x q : Str} {st : Stmt} {N ps : List Str} {k : Nat} {sp : Sp} {f c : Addr} {fd : FuncData} (F : FunD K x q (defArgs st) (defBody st) (defScope st) [] [] f fd) (hc : fd.code = .ref c) (S : FnScope N ps (defScope st)) (len : ∀ vs H Q E, sp vs H Q E → vs.length = ps.length)
    (body : ∀ (A : Around) (outer : List Env) (s : Shared) (H : Hp) (vs : List V) (Q : VK) (E : XK), Room k (A.deeper (envOfC q (defScope st) s.heap.objs.size f (.ref c))) → sp vs H Q E →
      ∃ t, PSs (cxOf CX0 P w K mg base N q (defScope st) f (.ref c) A outer s H E).nox (defBody st) t ∧ t { nx := fun _ H' => Q .non H', rt := Q } (start N vs) H) : FnOk P w K mg base CX0 (k + 1) f fd ps sp := by
  obtain ⟨oc, od, dV, kV, doc, pm, an, cdv, ct, osl, rfl, lk, hcd, _, _⟩ := F.ex
  have e : cdv = .ref c := hc
  subst e
  refine fn_of lk hcd S len fun A outer s H vs Q E hr hsp => ?_
  obtain ⟨t, h1, h2⟩ := body A outer s H vs Q E hr hsp
  exact ⟨t, h1.nox, h2⟩
/-- a law whose code object has the empty table at T -/
def spLawT (K : PySem.W.Frag) (T : Addr) : Sp := fun vs H Q _ => ∃ (a : Addr) (ns : List Int), vs = [.ref a] ∧ ns.length ≤ 63 ∧ SqL K H a (ns.map V.int) ∧ H T = some (.tbl #[]) ∧ ∀ H', Q (.bl true) H'
end
theorem SameN.refl (H : Hp) : SameN H H := fun _ _ e _ => e
theorem SameN.trans {H H1 H2 : Hp} (a : SameN H H1) (b : SameN H1 H2) : SameN H H2 := fun c o e n => b c o (a c o e n) n
theorem SameN.of {H H' : Hp} (s : Same H H') : SameN H H' := fun b o e _ => s b o e
theorem SameN.lst {H H' : Hp} (s : SameN H H') {b : Addr} {xs : List V} (e : H b = some (.lst xs)) : H' b = some (.lst xs) := s b _ e (by
  intro ps z
  cases z)
theorem SameN.tup {H H' : Hp} (s : SameN H H') {b : Addr} {xs : List V} (e : H b = some (.tup xs)) : H' b = some (.tup xs) := s b _ e (by
  intro ps z
  cases z)
theorem SameN.lam {H H' : Hp} (s : SameN H H') {b : Addr} {F : LF} (e : H b = some (LamO b F)) : H' b = some (LamO b F) := s b _ e (lamO_no b F)
theorem SameN.code {H H' : Hp} (s : SameN H H') {b : Addr} {q : Str} (e : H b = some (LamX.CodeO b q)) : H' b = some (LamX.CodeO b q) := s b _ e (codeO_no b q)
end DR
namespace DR
open PySem PySem.Spec PyProof.Rows L2
open LamX (CodeO TabS)
theorem lam_put {H H1 : Hp} {W f : Addr} {xs ys : List V} {F : LF} (sn : SameN H H1) (eW : H W = some (.lst xs)) (fO : H f = some (LamO f F)) : upd H1 W (.lst ys) f = some (LamO f F) :=
  (upd_ne (ne_of fO eW (by
    intro z
    unfold LamO at z
    cases z))).trans (sn.lam fO)
theorem code_put {H H1 : Hp} {W c : Addr} {xs ys : List V} {q : Str} (sn : SameN H H1) (eW : H W = some (.lst xs)) (cO : H c = some (CodeO c q)) : upd H1 W (.lst ys) c = some (CodeO c q) :=
  (upd_ne (ne_of cO eW (by
    intro z
    unfold CodeO at z
    cases z))).trans (sn.code cO)
theorem tab_put {H : Hp} {W T : Addr} {xs ys : List V} {q : Str} (tb : TabS H T q) (eW : H W = some (.lst xs)) : TabS (upd H W (.lst ys)) T q := by
  obtain ⟨ps, h1, h2, h3⟩ := tb
  refine ⟨ps, (upd_ne (ne_of h1 eW (by intro z; cases z))).trans h1, h2, fun pos cv hc => ?_⟩
  obtain ⟨c, e1, e2⟩ := h3 pos cv hc
  exact ⟨c, e1, code_put (SameN.refl H) eW e2⟩
theorem tab_new {H : Hp} {W T : Addr} {ys : List V} {q : Str} (tb : TabS H T q) (nW : H W = none) : TabS (upd H W (.lst ys)) T q := tb.ext fun b o e => by
  rw [upd_ne (ne_of_none e nW)]
  exact e
theorem sameN_put {H0 H H1 : Hp} {W : Addr} {o : HO} (s : SameN H0 H) (sn : SameN H H1) (nW : H0 W = none) : SameN H0 (upd H1 W o) := fun b u e n => by
  rw [upd_ne (ne_of_none e nW)]
  exact sn b u (s b u e n) n
end DR

set_option Elab.async false
set_option linter.all false
set_option maxRecDepth 100000
set_option maxHeartbeats 4000000
/-! ### defs whose code object is known (they make generators) -/
namespace DR
open PySem PySem.Spec PyProof.Rows L2
open GxR (TabB TabG Tabbed)
def IsDefC (K : PySem.W.Frag) (mg : Str → Option Value) (x : Str) (st : Stmt) (c : Addr) : Prop := ∃ f fd, FunD K x x (defArgs st) (defBody st) (defScope st) [] [] f fd ∧ mg x = some (.ref f) ∧ fd.code = .ref c
section
variable {P : Program} {w : World} {K : PySem.W.Frag} {mg : Str → Option Value} {base : Heap}
theorem has_ofC {x : Str} {st : Stmt} {N ps : List Str} {k : Nat} {sp : Sp} {c : Addr} (D : IsDefC K mg x st c) (S : FnScope N ps (defScope st)) (B : Takes0 x x st ps) (len : ∀ vs H Q E, sp vs H Q E → vs.length = ps.length)
    (body : ∀ (f : Addr) (A : Around) (outer : List Env) (s : Shared) (H : Hp) (vs : List V) (Q : VK) (E : XK), Room k (A.deeper (envOfC x (defScope st) s.heap.objs.size f (.ref c))) → sp vs H Q E →
      ∃ t, PSs (cxOf CX0 P w K mg base N x (defScope st) f (.ref c) A outer s H E).nox (defBody st) t ∧ t { nx := fun _ H' => Q .non H', rt := Q } (start N vs) H) : Has P w K mg base (k + 1) x ps sp := by
  obtain ⟨f, fd, F, g, hc⟩ := D
  exact ⟨f, fd, g, F.kp, ok_ofT F hc S len fun A outer s H vs Q E hr h => body f A outer s H vs Q E hr h, F.bindsN B⟩
end
/-- H' stands where H stood, but for the two tables; both are tables still -/
structure Gw (T1 T2 : Addr) (H H' : Hp) : Prop where
  same : SameN H H'
  none_ : ∀ b, H' b = none → H b = none
  t1 : TabG H' T1
  t2 : TabG H' T2
theorem Gw.refl {T1 T2 : Addr} {H : Hp} (h1 : TabG H T1) (h2 : TabG H T2) : Gw T1 T2 H H := ⟨SameN.refl H, fun _ e => e, h1, h2⟩
theorem Gw.trans {T1 T2 : Addr} {H H1 H2 : Hp} (a : Gw T1 T2 H H1) (b : Gw T1 T2 H1 H2) : Gw T1 T2 H H2 := ⟨a.same.trans b.same, fun c e => a.none_ c (b.none_ c e), b.t1, b.t2⟩
theorem tabG_same {T : Addr} {H H' : Hp} (h : TabG H T) (s : Same H H') : TabG H' T := by
  obtain ⟨ps, e, t⟩ := h
  exact ⟨ps, s _ _ e, t⟩
theorem Gw.of {T1 T2 : Addr} {H H' : Hp} (h1 : TabG H T1) (h2 : TabG H T2) (s : Same H H') : Gw T1 T2 H H' := by
  refine ⟨SameN.of s, fun b e => ?_, tabG_same h1 s, tabG_same h2 s⟩
  cases z : H b with
  | none => rfl
  | some o =>
    rw [s b o z] at e
    cases e
theorem Gw.same2 {T1 T2 : Addr} {H H1 H2 : Hp} (a : Gw T1 T2 H H1) (s : Same H1 H2) : Gw T1 T2 H H2 := a.trans (.of a.t1 a.t2 s)
theorem Gw.tab1 {T1 T2 : Addr} {H H' : Hp} (h1 : TabG H T1) (h2 : TabG H T2) (t : Tabbed T1 H H') (ne : T1 ≠ T2) : Gw T1 T2 H H' := by
  obtain ⟨g, k⟩ := t
  obtain ⟨ps, e1, _⟩ := id h1
  refine ⟨fun b o e n => ?_, fun b e => ?_, g, ?_⟩
  · rw [k b (fun z => by
      rw [z, e1] at e
      exact n _ (Option.some.inj e).symm)]
    exact e
  · by_cases z : b = T1
    · obtain ⟨qs, e2, _⟩ := g
      rw [z, e2] at e
      cases e
    · rw [← k b z]
      exact e
  · obtain ⟨qs, e2, t2⟩ := h2
    exact ⟨qs, (k T2 (Ne.symm ne)).trans e2, t2⟩
theorem Gw.tab2 {T1 T2 : Addr} {H H' : Hp} (h1 : TabG H T1) (h2 : TabG H T2) (t : Tabbed T2 H H') (ne : T1 ≠ T2) : Gw T1 T2 H H' := by
  obtain ⟨a, b, c, d⟩ := Gw.tab1 h2 h1 t (Ne.symm ne)
  exact ⟨a, b, d, c⟩
theorem Gw.lst {T1 T2 : Addr} {H H' : Hp} (g : Gw T1 T2 H H') {b : Addr} {xs : List V} (e : H b = some (.lst xs)) : H' b = some (.lst xs) := g.same.lst e
theorem Gw.tup {T1 T2 : Addr} {H H' : Hp} (g : Gw T1 T2 H H') {b : Addr} {xs : List V} (e : H b = some (.tup xs)) : H' b = some (.tup xs) := g.same.tup e
/-- the test at place j of a list -/
def trL {α : Type} (pb : α → Bool) (l : List α) (j : Nat) : Bool := match l[j]? with
  | some b => pb b
  | none => false
theorem trL_some {α : Type} {pb : α → Bool} {l : List α} {j : Nat} {b : α} (h : l[j]? = some b) : trL pb l j = pb b := by
  unfold trL
  rw [h]
theorem all_trL {α : Type} (l : List α) (pb : α → Bool) : (List.range l.length).all (trL pb l) = l.all pb := by
  rw [Bool.eq_iff_iff, List.all_eq_true, List.all_eq_true]
  constructor
  · intro h b hb
    obtain ⟨j, hj, e⟩ := List.getElem_of_mem hb
    have q := h j (List.mem_range.mpr hj)
    rw [trL_some (List.getElem?_eq_getElem hj), e] at q
    exact q
  · intro h j hj
    have hj' := List.mem_range.mp hj
    rw [trL_some (List.getElem?_eq_getElem hj')]
    exact h _ (List.getElem_mem hj')
end DR

set_option Elab.async false
set_option linter.all false
set_option maxRecDepth 100000
set_option maxHeartbeats 4000000
namespace DR
open PySem PySem.Spec PyProof.Rows L2
open GxR (TabB TabG Tabbed)
section
variable {P : Program} {w : World} {K : PySem.W.Frag} {mg : Str → Option Value} {base : Heap} {c1 T1 : Addr}
def spIsNum (T1 : Addr) : Sp := fun vs H Q _ => ∃ z : Str, vs = [.str z] ∧ z.length ≤ 1000 ∧ TabG H T1 ∧ ∀ H0 H', Same H H0 → Tabbed T1 H0 H' → Q (.bl (isNum z)) H'
theorem scIsNum : FnScope ["word"] ["word"] (defScope s_is_number) := ⟨rfl, rfl, rfl, by decide +kernel, rfl, by decide +kernel, by decide +kernel⟩
theorem has_isnum {t : Tok} (D : IsDefC K mg "is_number" s_is_number c1) (TB : TabB base mg c1 T1) (B : Blt mg) (gF : mg "FIGURES" = some (.str "0123456789" t)) : Has P w K mg base 2 "is_number" ["word"] (spIsNum T1) := by
  refine has_ofC D scIsNum (fun _ _ _ _ _ _ us hl => match us, hl with | [_], _ => rfl) (fun vs H Q E h => ?_) (fun f A outer s H vs Q E hr h => ?_)
  · obtain ⟨z, rfl, _⟩ := h
    rfl
  · obtain ⟨z, rfl, zl, tg, q⟩ := h
    refine ⟨_, pss_cons (ps_if (PW.pt (pw_and (pt_cmpR op_eq (pe_callB call_len_str (by rfl) B.len PySem.boot_len (pa_cons (pv 0) pa_nil)) pe_int (nomark _)) (pw_and1 (pt_cmpR op_eq (pe_ix ix_str (pv 0) pe_int (fun _ _ => rfl)) pe_str (nomark _)))))
        (pss_one (ps_ret pe_bl)) pss_nil)
      (pss_one (ps_ret (pe_and (pe_cmpR (r := rIn K false) op_in_seq (pe_callB call_len_str (by rfl) B.len PySem.boot_len (pa_cons (pv 0) pa_nil)) (pe_tup (pa_cons pe_int (pa_cons pe_int pa_nil))) (by with_unfolding_all rfl))
        (pe_one (pe_allG (k := 0) hr (by rfl) B.all (by decide +kernel) TB rfl ⟨rfl, rfl, by decide +kernel, by decide +kernel, rfl, rfl⟩ (pi_str (pv 0)) (fun A' s0 H0 fp C code hr' => pe_cmpR op_in_sign (pv 0) (pe_glob (v := .str "0123456789") rfl gF ⟨_, rfl⟩) (by with_unfolding_all rfl)) (fun _ => rfl)))))), ?_⟩
    have zs : z.length ≤ sizeLine := Nat.le_trans zl (by decide)
    have rest : ∀ σ, σ = L2.start ["word"] [V.str z] → ¬ (z.length = 2 ∧ z.cps.toList[0]? = some 48) → tAndV (tOp (rIn K false) (tCB (fun xs H Q => ∃ z, xs = [V.str z] ∧ z.length ≤ sizeLine ∧ Q (V.int z.length) H) (tCons (tVar 0) tNil)) (tTup (tCons (tC (V.int 1)) (tCons (tC (V.int 2)) tNil))))
        (tAllG T1 (iStr (tVar 0)) (tOp (fun x y H Q => ∃ c z, x = V.str { cps := #[c] } ∧ y = V.str z ∧ Q (V.bl (decide (c ∈ z.cps.toList))) H) (tVar 0) (tC (V.str "0123456789")))) σ H Q := by
      rintro σ rfl nz
      refine ⟨_, rfl, z, rfl, zs, (by show 2 ≤ sizeLine; decide), fun a na => ?_⟩
      have s1 : Same H (upd H a (.tup [.int 1, .int 2])) := same_new na
      refine ⟨a, _, rfl, .inr (SqT.of upd_same), rfl, rfl, _, rfl, ?_⟩
      have ein : inV (V.int (z.length : Int)) [.int 1, .int 2] = (z.length == 1 || z.length == 2) := by
        rw [Bool.eq_iff_iff]
        simp only [inV, List.any_cons, List.any_nil, eqV, Bool.or_false, Bool.or_eq_true, decide_eq_true_eq, beq_iff_eq]
        omega
      have enum : isNum z = ((z.length == 1 || z.length == 2) && z.cps.toList.all fun c => decide (c ∈ ("0123456789" : Str).cps.toList)) := by
        unfold isNum
        rw [if_neg]
        intro h
        rw [Bool.and_eq_true, beq_iff_eq, decide_eq_true_eq] at h
        exact nz h
      rw [ein]
      cases el : (z.length == 1 || z.length == 2) with
      | false =>
        rw [el, Bool.false_and] at enum
        refine iteF ?_
        show Q (.bl false) _
        rw [← enum]
        exact q _ _ s1 ⟨tabG_same tg s1, fun _ _ => rfl⟩
      | true =>
        rw [el, Bool.true_and] at enum
        refine iteT ⟨_, rfl, z, rfl, tabG_same tg s1, fun H2 tb => ?_⟩
        refine ⟨z.cps.size, GxR.trF (fun c => decide (c ∈ ("0123456789" : Str).cps.toList)) z.cps.toList, fun j H' => H' = H2, rfl, fun j H' hj _ => hj, fun H' _ => Nat.le_refl _, fun j H' v H'' hj e y => ?_, fun j H' e => ?_⟩
        · obtain ⟨rfl, cc, hc, rfl⟩ := y
          subst e
          have hc' : z.cps.toList[j]? = some cc := by rw [Array.getElem?_toList]; exact hc
          exact ⟨_, rfl, cc, _, rfl, rfl, by rw [GxR.trF_some hc'], rfl⟩
        · subst e
          rw [GxR.all_signs, ← enum]
          exact q _ _ s1 tb
    refine ⟨_, rfl, z, rfl, zs, rfl, _, rfl, ?_⟩
    by_cases l2 : z.length = 2
    · have e2 : decide (V.int (z.length : Int) = V.int 2) = true := decide_eq_true (by rw [l2]; rfl)
      rw [e2]
      have hl : z.cps.toList.length = 2 := by
        rw [Array.length_toList]
        exact l2
      obtain ⟨cc, hc⟩ : ∃ cc, z.cps.toList[0]? = some cc := ⟨_, List.getElem?_eq_getElem (by omega)⟩
      refine iteT ⟨_, rfl, z, 0, cc, rfl, rfl, zs, ?_, rfl, _, rfl, ?_⟩
      · show (ixN z.cps.toList.length 0).bind _ = _
        rw [hl]
        exact hc
      · by_cases h0 : cc = 48
        · subst h0
          have enum : isNum z = false := by
            unfold isNum
            rw [if_pos]
            rw [Bool.and_eq_true, beq_iff_eq, decide_eq_true_eq]
            exact ⟨l2, hc⟩
          have e3 : decide (V.str ⟨#[48]⟩ = V.str "0") = true := by decide +kernel
          rw [e3]
          refine iteT ?_
          show Q (.bl false) H
          rw [← enum]
          exact q _ _ (Same.refl H) ⟨tg, fun _ _ => rfl⟩
        · have e3 : decide (V.str ⟨#[cc]⟩ = V.str "0") = false := decide_eq_false fun z => by
            have z1 : (⟨#[cc]⟩ : Str) = ⟨#[48]⟩ := V.str.inj z
            have z2 : (#[cc] : Array Nat) = #[48] := congrArg Str.cps z1
            simp at z2
            exact h0 z2
          rw [e3]
          refine iteF ?_
          exact rest _ rfl fun h => h0 (by rw [hc] at h; exact Option.some.inj h.2)
    · have e2 : decide (V.int (z.length : Int) = V.int 2) = false := decide_eq_false fun h => l2 (by
        have := V.int.inj h
        omega)
      rw [e2]
      exact rest _ rfl fun h => l2 h.1
end
end DR

set_option Elab.async false
set_option linter.all false
set_option maxRecDepth 100000
set_option maxHeartbeats 4000000
/-! ### first, *rest = a list -/
namespace DR
open PySem PySem.Spec PyProof.Rows L2
theorem unp_star {prog : Program} {w : World} {A : Around} {E : Value → Shared → Prop} {s : Shared} {l : Addr} {items : Array Value} {u0 : Value} {us : List Value} {Q : List Value → Shared → Prop} (hl : s.heap.IsList l items) (e : items.toList = u0 :: us) (hh : A.handled = none) (hz : items.size ≤ sizeLine)
    (h : ∀ (h2 : Heap) (tk : Nat), (∀ b o, s.heap.get? b = some o → h2.get? b = some o) → Q [u0, .ref h2.objs.size] { s with heap := h2.push { cls := .type "list", data := .seq us.toArray }, toks := tk }) :
    wpAny (model prog w) A (unpackItems (.ref l) 2 (some 1)) Q E s := by
  have hlt : l ≠ s.heap.objs.size := by obtain ⟨o, ho, _⟩ := hl; exact Nat.ne_of_lt (Heap.lt_size ho)
  have hsz : items.size = us.length + 1 := by
    have := congrArg List.length e
    simpa using this
  unfold unpackItems
  refine wpAny_bind ?_
  unfold notIterableAtAll
  refine wpAny_bind (wpAny_specialOf hl.typeIs slot_list_iter.lookup ?_)
  refine wpAny_pure ?_
  simp only [Bool.false_eq_true, if_false]
  refine wpAny_bind (wpAny_holding (wpAny_pyIter_list hl ?_))
  refine wpAny_bind (wpAny_holding (PySem.W.kun_draw hlt 1 0 _ _ ⟨_, Heap.get?_push_size _ rfl, rfl, rfl⟩ (hl.push _) (by omega) fun h₁ hit₁ hs₁ => ?_))
  have hl₁ : h₁.IsList l items := (hl.push _).extBut hs₁.extBut hlt
  rw [Nat.zero_add] at hit₁
  have hit₁' := hit₁
  obtain ⟨oi, hoi, _⟩ := hit₁'
  have hl₁' := hl₁
  obtain ⟨ol, hol, _⟩ := hl₁'
  rw [List.drop_zero, e]
  show wpAny _ _ (if ([u0] : List Value).length < 1 then _ else _) _ _ _
  rw [if_neg (by simp)]
  refine wpAny_bind (wpAny_holding (PySem.W.kun_collect (s := { s with heap := h₁ }) (T := "list_iterator") (.inr (.inr (.inl rfl))) (Walks.list (A := A.in1) hh s.heap.objs.size l hlt items) (fun j u st => st.1.typeIs) (k := 1) (by omega) ⟨hit₁, hl₁⟩ (Heap.lt_size hoi) (Heap.lt_size hol) (fun h₂ tk hk => ?_) hz))
  rw [e]
  show wpAny _ _ (if us.length < 0 then _ else _) _ _ _
  rw [if_neg (by omega)]
  show wpAny _ _ (newList (us.take us.length) >>= fun d => pure ([u0] ++ [d] ++ us.drop us.length)) _ _ _
  rw [List.take_length, List.drop_length]
  refine wpAny_bind (wpAny_newList (wpAny_pure (h h₂ tk fun b o q => ?_)) (by rw [hsz] at hz; omega))
  have nb : b ≠ s.heap.objs.size := Nat.ne_of_lt (Heap.lt_size q)
  exact hk b o nb (hs₁.extBut b o nb (Heap.get?_push_of_some _ q))
/-- the first item, and the rest in a new list -/
def gStar (K : PySem.W.Frag) (t u : TG) : TG := fun v σ H Q => ∃ a z zs, v = .ref a ∧ SqL K H a (z :: zs) ∧ ∀ D, H D = none → t z σ (upd H D (.lst zs)) fun σ1 H1 => u (.ref D) σ1 H1 Q
section
variable {X : Cx} {e1 e2 : Expr} {sp pos : Pos} {k : Nat} {t u : TG}
theorem pg_star (hc : X.calm = true) (h1 : PG X e1 t) (h2 : PG X e2 u) (he : assignEach [e1, .Starred e2 sp] X.env = [(false, assign e1 X.env), (true, assign e2 X.env)] := by rfl) : PG X (.Tuple [e1, .Starred e2 sp] k pos) (gStar X.K t u) := by
  refine ⟨fun pins s σ H v x Q I r hw => ?_⟩
  obtain ⟨a, z, zs, ev, hq, hw⟩ := hw
  subst ev
  cases r
  obtain ⟨its, rv, p, hz⟩ := I.list hq
  obtain ⟨w0, ws, rfl, rz, rs⟩ : ∃ w0 ws, its = w0 :: ws ∧ RelV z w0 ∧ Vals zs ws := by
    cases rv with
    | cons r1 r2 => exact ⟨_, _, rfl, r1, r2⟩
  rw [assign_Tuple]
  refine wpAny_bind (wpAny_standAt ?_)
  unfold unpack
  rw [he]
  have hl := rs.length
  have zl : zs.length + 1 ≤ sizeLine := hz
  refine wpAny_bind (wpAny_holding (unp_star p.isList (u0 := w0) (us := ws) (by simp) (I.ok.hd hc) (by simp; omega) fun hp tk keep => ?_))
  have I1 : Inv X pins σ H { s with heap := hp, toks := tk } := I.kept keep
  have nf : H hp.objs.size = none := I1.hok.fresh (Nat.le_refl _)
  have I2 : Inv X pins σ (upd H hp.objs.size (.lst zs)) { s with heap := hp.push { cls := .type "list", data := .seq ws.toArray }, toks := tk } :=
    I1.laid (t' := tk) (fun b q e => Heap.get?_push_of_some _ e) (Nat.le_refl _) ⟨by omega, ws, 0, rs, Heap.get?_push_size _ rfl⟩
  show wpAny _ _ (assignInOrder [assign e1 X.env, assign e2 X.env] [w0, .ref hp.objs.size]) _ _ _
  show wpAny _ _ (holding _ (assign e1 X.env w0) >>= fun _ => assignInOrder [assign e2 X.env] [.ref hp.objs.size]) _ _ _
  refine wpAny_bind (wpAny_holding (thn (h1.run pins _ σ _ z w0 _ I2 rz (hw _ nf)) fun _ s3 ⟨σ3, H3, I3, q3⟩ => ?_))
  show wpAny _ _ (holding _ (assign e2 X.env (.ref hp.objs.size)) >>= fun _ => assignInOrder [] []) _ _ _
  exact wpAny_bind (wpAny_holding (thn (h2.run pins _ σ3 H3 (.ref hp.objs.size) _ _ I3 rfl q3) fun _ s4 q4 => wpAny_pure q4))
end
end DR

set_option Elab.async false
set_option linter.all false
set_option maxRecDepth 100000
set_option maxHeartbeats 4000000
namespace DR
open PySem PySem.Spec PyProof.Rows L2
open GxR (TabB TabG Tabbed)
/-- a list of texts, each made a number -/
theorem lc_ints {K : PySem.W.Frag} {l D : Addr} {zs : List Str} {ns : List Int} {H0 : Hp} {σ : L2.St} {i : Nat} {te : TE} {Qd : Hp → Prop} (hl : H0 l = some (.lst (zs.map V.str))) (nD : H0 D = none) (len : zs.length ≤ 1000) (ez : ns.length = zs.length)
    (hw : ∀ a : V, wipe ((wipe σ [i]).set i (some a)) [i] = wipe σ [i])
    (elt : ∀ z n H (R : V → Hp → Prop), (z, n) ∈ zs.zip ns → Same H0 H → (∀ H', Same H H' → R (.int n) H') → te ((wipe σ [i]).set i (some (.str z))) H R)
    (fin : ∀ H, Same H0 H → H D = some (.lst (ns.map V.int)) → Qd H) :
    ∃ W : Nat → Nat → Hp → Prop, (∃ m, W 0 m (upd H0 D (.lst []))) ∧ ∀ k m H, W k m H →
      ((Itl K l).stop k H ∧ Qd H) ∨ ((Itl K l).go k H ∧ ∃ Nx : Hp → Prop, (∀ H', Nx H' → ∃ m', m' < m ∧ W (k + 1) m' H') ∧ ∀ x H', (Itl K l).yld k H x H' → gName i x (wipe σ [i]) H' fun σ2 H2 => wipe σ2 [i] = wipe σ [i] ∧ tYes σ2 H2 fun b H3 =>
        if b = true then te σ2 H3 fun y H4 => ∃ acc, H4 D = some (.lst acc) ∧ acc.length < sizeLine ∧ Nx (upd H4 D (.lst (acc ++ [y]))) else Nx H3) := by
  have lD : l ≠ D := ne_of_none hl nD
  refine lc_list (K := K) (a := l) (xs := zs.map V.str) (g := gName i) (tt := tYes) (te := te) (vs := [i]) (σ := σ) (Pv := fun k H => Kp D H0 H ∧ H D = some (.lst ((ns.take k).map V.int)))
    ⟨Kp.put _ _ _, upd_same⟩ (fun k H _ ⟨kp, _⟩ => SqL.of (kp l _ lD hl)) (fun k x H hx ⟨kp, eD⟩ => ?_) (fun H ⟨kp, eD⟩ => ?_)
  · rw [List.getElem?_map] at hx
    obtain ⟨z, hz, rfl⟩ : ∃ z, zs[k]? = some z ∧ x = .str z := by
      cases e : zs[k]? with
      | none => rw [e] at hx; cases hx
      | some z => rw [e] at hx; exact ⟨z, rfl, (Option.some.inj hx).symm⟩
    have hk : k < zs.length := (List.getElem?_eq_some_iff.mp hz).1
    obtain ⟨n, hn⟩ : ∃ n, ns[k]? = some n := ⟨_, List.getElem?_eq_getElem (by omega)⟩
    have s2 : Same H0 H := fun c o e => kp c o (ne_of_none e nD) e
    refine ⟨hw _, ?_⟩
    refine elt z n H _ (List.mem_of_getElem? (List.getElem?_zip_eq_some.mpr ⟨hz, hn⟩ : (zs.zip ns)[k]? = some (z, n))) s2 fun H' s3 => ⟨_, s3 _ _ eD, ?_, fun c o nc e => ?_, ?_⟩
    · rw [List.length_map, List.length_take]
      exact small1000 (by omega)
    · rw [upd_ne nc]
      exact s3 c o (kp c o nc e)
    · rw [upd_same, List.take_succ, hn, List.map_append]
      rfl
  · refine fin H (fun c o e => kp c o (ne_of_none e nD) e) ?_
    rw [List.length_map, ← ez, List.take_length] at eD
    exact eD
section
variable {P : Program} {w : World} {K : PySem.W.Frag} {mg : Str → Option Value} {base : Heap} {c2 T1 T2 : Addr}
def spNums (T1 T2 : Addr) : Sp := fun vs H Q _ => ∃ (row name : Str) (at_ many : Int) (ns : List Int), vs = [.str row, .int at_, .str name, .int many] ∧ row.length ≤ 1000 ∧ Txt.split row " " = name :: ns.map numS ∧ many = (ns.length : Int) ∧ (∀ i ∈ ns, Num30 i) ∧ ns.length ≤ 2 ∧ T1 ≠ T2 ∧ TabG H T1 ∧ TabG H T2 ∧
  ∀ l H', Gw T1 T2 H H' → H l = none → H' l = some (.lst (ns.map V.int)) → Q (.ref l) H'
abbrev nNums : List Str := ["row", "at", "name", "many", "first", "words", "word"]
theorem scNums : FnScope nNums ["row", "at", "name", "many"] (defScope s_numbers_of) := ⟨rfl, rfl, rfl, by decide +kernel, rfl, by decide +kernel, by decide +kernel⟩
theorem has_nums (D : IsDefC K mg "numbers_of" s_numbers_of c2) (TB : TabB base mg c2 T2) (B : Blt mg) (IN : Has P w K mg base 2 "is_number" ["word"] (spIsNum T1)) : Has P w K mg base 4 "numbers_of" ["row", "at", "name", "many"] (spNums T1 T2) := by
  refine has_ofC D scNums (fun _ _ _ _ _ _ us hl => match us, hl with | [_, _, _, _], _ => rfl) (fun vs H Q E h => ?_) (fun f A outer s H vs Q E hr h => ?_)
  · obtain ⟨row, name, at_, many, ns, rfl, _⟩ := h
    rfl
  · obtain ⟨row, name, at_, many, ns, rfl, rl, sp, em, n30, n2, ne, t1, t2, q⟩ := h
    refine ⟨_, pss_cons (ps_asg (pe_split (pv 0) pe_str) (pg_star (by rfl) (pg_name (i := 4) scNums.nd rfl (.inl rfl)) (pg_name (i := 5) scNums.nd rfl (.inl rfl))))
      (pss_cons (ps_if (PW.pt (pw_or (pt_cmpR op_ne (pv 4) (pv 2) (nomark _)) (pw_or (pt_cmpR op_ne (pe_callB call_len_seq (by rfl) B.len PySem.boot_len (pa_cons (pv 5) pa_nil)) (pv 3) (nomark _))
          (pw_or1 (pt_not (pt_truth (pe_allG (k := 2) hr (by rfl) B.all (by decide +kernel) TB rfl ⟨rfl, rfl, by decide +kernel, by decide +kernel, rfl, rfl⟩ (pi_list (pv 5)) (fun A' s0 H0 fp C code hr' => pe_has IN hr' (by decide) (by rfl) (pa_cons (pv 0) pa_nil)) (fun _ => rfl)) (by intro _; rfl))))))) pss_never pss_nil)
      (pss_one (ps_ret (pe_lc (own := [("word", 6)]) (g := gName 6) (tt := tYes) (by rfl) scNums.nd (pi_list (pv 5)) (blkOk_by (N := nNums) (sc := defScope s_numbers_of) (by decide +kernel)) (fun _ _ _ _ _ => pg_name (i := 6) scNums.nd rfl (.inl rfl)) (fun _ _ _ _ _ => pts_nil)
          (fun _ _ _ _ _ => pe_callTy call_int_str (by rfl) B.int (by decide +kernel) (pa_cons (pv 6) pa_nil)))))), ?_⟩
    have rs : row.length + 2 ≤ sizeLine := Nat.le_trans (Nat.add_le_add_right rl 2) (by decide)
    refine ⟨_, rfl, ⟨row, rfl⟩, row, " ", rfl, rfl, rfl, rs, fun p np => ?_⟩
    have s1 : Same H (upd H p (.lst ((Txt.split row " ").map V.str))) := same_new np
    refine ⟨p, .str name, (ns.map numS).map V.str, rfl, SqL.of (by rw [upd_same, sp]; rfl), fun D nD => ?_⟩
    have s2 := s1.trans (same_new (o := .lst ((ns.map numS).map V.str)) nD)
    have eD : upd (upd H p (.lst ((Txt.split row " ").map V.str))) D (.lst ((ns.map numS).map V.str)) D = some (.lst ((ns.map numS).map V.str)) := upd_same
    generalize upd (upd H p (.lst ((Txt.split row " ").map V.str))) D (.lst ((ns.map numS).map V.str)) = H2 at s2 eD
    have u1 := tabG_same t1 s2
    have u2 := tabG_same t2 s2
    have g2 : Gw T1 T2 H H2 := .of t1 t2 s2
    have lw : ((ns.map numS).map V.str).length = ns.length := by rw [List.length_map, List.length_map]
    refine ⟨_, rfl, _, rfl, rfl, _, rfl, ?_⟩
    rw [show (!decide (V.str name = V.str name)) = false by simp]
    refine iteF ⟨_, rfl, D, _, rfl, .inl (SqL.of eD), _, rfl, rfl, _, rfl, ?_⟩
    rw [lw, show (!decide (V.int (ns.length : Int) = V.int many)) = false by rw [em]; simp]
    refine iteF ⟨_, rfl, D, rfl, ⟨_, SqL.of eD⟩, u2, fun H3 tb => ?_⟩
    have g3 : Gw T1 T2 H H3 := g2.trans (.tab2 u1 u2 tb ne)
    have fin : ∀ H4, Gw T1 T2 H3 H4 → H4 D = some (.lst ((ns.map numS).map V.str)) := fun H4 g => g.lst ((Gw.tab2 u1 u2 tb ne).lst eD)
    refine ⟨ns.length, trL isNum (ns.map numS), fun j H4 => Gw T1 T2 H3 H4, .refl g3.t1 g3.t2, fun j H4 hj g => ?_, fun H4 g => ?_, fun j H4 v H5 hj g y => ?_, fun j H4 g => ?_⟩
    · have e := fin H4 g
      exact ⟨_, _, SqL.of e, List.getElem?_eq_getElem (by rw [lw]; exact hj)⟩
    · exact ⟨_, SqL.of (fin H4 g), by rw [lw]; exact Nat.le_refl _⟩
    · obtain ⟨rfl, y⟩ := y
      have e := y _ (SqL.of (fin _ g))
      rw [List.getElem?_map, List.getElem?_map] at e
      obtain ⟨n, hn⟩ : ∃ n, ns[j]? = some n := ⟨_, List.getElem?_eq_getElem hj⟩
      rw [hn] at e
      obtain rfl : V.str (numS n) = v := Option.some.inj e
      have nn := n30 n (List.mem_of_getElem? hn)
      have nl := numS_len nn.1 nn.2
      refine ⟨_, rfl, numS n, rfl, by omega, g.t1, fun H0 H6 s t => ⟨?_, ?_⟩⟩
      · rw [trL_some (b := numS n) (by rw [List.getElem?_map, hn]; rfl)]
      · have a : Gw T1 T2 H5 H0 := .of g.t1 g.t2 s
        exact g.trans (a.trans (.tab1 a.t1 a.t2 t ne))
    · have ea : (List.range ns.length).all (trL isNum (ns.map numS)) = true := by
        have := all_trL (ns.map numS) isNum
        rw [List.length_map] at this
        rw [this, List.all_eq_true]
        intro z hz
        obtain ⟨i, hi, rfl⟩ := List.mem_map.mp hz
        exact isNum_ok (n30 i hi)
      rw [ea]
      refine ⟨_, rfl, ?_⟩
      refine iteF ?_
      have e := fin H4 g
      refine ⟨_, rfl, D, rfl, ⟨_, SqL.of e⟩, fun L nL => lc_ints (zs := ns.map numS) (ns := ns) e nL (by rw [List.length_map]; omega) (by rw [List.length_map]) (fun _ => rfl) (fun z i H5 R hz s fin => ?_) (fun H5 s5 eL => ?_)⟩
      · obtain ⟨m, hm⟩ := List.getElem?_of_mem hz
        obtain ⟨h1, h2⟩ := List.getElem?_zip_eq_some.mp hm
        rw [List.getElem?_map, h2] at h1
        obtain rfl : numS i = z := Option.some.inj h1
        have nn := n30 i (List.mem_of_getElem? h2)
        have nl := numS_len nn.1 nn.2
        exact ⟨_, rfl, numS i, i, rfl, int_ok nn, by omega, fin _ (Same.refl _)⟩
      · have g5 := (g3.trans g).same2 s5
        exact q L H5 g5 ((g3.trans g).none_ L nL) eL
end
end DR

set_option Elab.async false
set_option linter.all false
set_option maxRecDepth 100000
set_option maxHeartbeats 4000000
/-! ### raise X(e) of an own class, e made first -/
namespace DR
open PySem PySem.Spec PyProof.Rows L2
section
variable {X : Cx} {C : Addr}
theorem pmk_ownN1 {bmB : List Value} {B newId initId : String} {x : Str} {e : Expr} {ta : TE} {p pos : Pos} (F : ExcBaseFacts B newId initId bmB) (q : PySem.W.excIn X.K C bmB newId = true) (gC : X.mg x = some (.ref C)) (kC : PySem.W.keepIn X.K (.ref C) = true) (r : Raises X (.ref C)) (hg : Gl X x) (he : PE X e ta)
    (hdb : (x == ("__debug__" : Str)) = false := by decide) (hs : starEach [e] X.env = (false, eval e X.env) :: starEach [] X.env := by rfl) : L2N.PMk X (.Call (.Name x p) [e] [] pos) (fun σ H Q => ta σ H fun _ H1 => Q (.ref C) none H1) := by
  intro pins s σ H Q I h
  refine wpAny_Call_Name_kw (ld_glob I hg gC ?_ hdb)
  refine PySem.W.callWith_K (h₀ := X.base) I.ok.mod.kin kC ?_ hs (by rfl)
  rw [hs]
  show wpAny _ _ (spliced ((false, eval e X.env) :: backTo pos (starEach [] X.env))) _ _ s
  refine Calls.spliced_cons (thn (he.run pins s σ H _ I h) fun u s1 ⟨v, H1, I1, r1, q1⟩ => ?_)
  refine Calls.spliced_nil ⟨I1.kIn, ?_⟩
  show wpAny _ _ (call (.ref C) [u]) _ _ _
  obtain ⟨bm, N, nm, qn, bs, hdct, sn, sub, ab, col, dd, k0, k1, k2, k3, k5, mN, hC, hN, hni, T⟩ := exc_obj I1.kIn q
  refine wpAny_call_exc_subT F T hC hN hni (fun h' e hm => ?_) (by show 1 ≤ sizeLine; rw [sizeLine_eq]; omega)
  exact L2N.mk_of I1 hm r q1 (I1.hok.gone hm.new)
theorem ps_own1 {W : WX} {x : Str} {e : Expr} {ta : TE} {p pos pos2 : Pos} (hc : X.calm = true) (tk : L2N.Takes X W) (o : OwnX X.K X.mg x C) (hg : Gl X x) (he : PE X e ta) (hdb : (x == ("__debug__" : Str)) = false := by decide) (hs : starEach [e] X.env = (false, eval e X.env) :: starEach [] X.env := by rfl) :
    PS X (.Raise (some (.Call (.Name x p) [e] [] pos)) none pos2) (fun _ σ H => ta σ H fun _ H1 => W (.ref C) none σ H1) :=
  L2N.ps_raise hc tk (pmk_ownN1 PySem.F.excBase_ValueError o.q o.g o.k (raises_own o.s o.t) hg he hdb hs)
end
end DR

set_option Elab.async false
set_option linter.all false
set_option maxRecDepth 100000
set_option maxHeartbeats 4000000
/-! ### an own exception with fields, over an own base class -/
namespace DR
open PySem PySem.Spec PyProof.Rows L2
/-- what the text says of the base class -/
structure BaseX (K : PySem.W.Frag) (CE : Addr) : Prop where
  sp : PySem.W.specialIn K (.ref CE) "__getattribute__" = some (some (.builtin "type.__getattribute__"))
  rd : PySem.W.readsIn K CE (.type "type") = true
  vV : PySem.W.findCls K (.ref CE) (.type "type") "__init__" = some (.val (.builtin "ValueError.__init__"))
section
variable {X : Cx} {o e : Expr} {es : List Expr} {to te : TE} {ta : TA} {f : Str} {p p' p1 p2 pos : Pos}
theorem pe_yeinit {CE : Addr} {b : Str} {pl : Sem Bool} (B : BaseX X.K CE) (hg : Gl X b) (gE : X.mg b = some (.ref CE)) (ha : PA X (e :: es) ta) (hdb : (b == ("__debug__" : Str)) = false := by decide)
    (hc : eval (.Call (.Attribute (.Name b p1) "__init__" p2) (e :: es) [] pos) X.env = (do
      let ov ← eval (.Name b p1) X.env
      standAt p2.atName
      let (f, first) ← holding [ov] (getMethod ov "__init__" pl)
      callWith pos f first (backTo pos (starEach (e :: es) X.env)) (backToKw pos (keywordEach [] X.env))) := by rfl)
    (he : starEach (e :: es) X.env = (false, eval e X.env) :: starEach es X.env := by rfl) (hpl : (backTo pos (starEach es X.env)).any (·.1) = false := by rfl) :
    PE X (.Call (.Attribute (.Name b p1) "__init__" p2) (e :: es) [] pos) (tVeI X.K ta) := by
  refine ⟨fun pins s σ H Q I h => ?_⟩
  refine PySem.W.methodCall_KW (ld_glob I hg gE ?_ hdb) hc
  refine PySem.W.method_cls I.kIn B.sp (PySem.W.cls_value I.kIn B.rd B.vV (by decide +kernel) ?_)
  show wpAny _ _ (callWith pos (Value.builtin "ValueError.__init__") [] (backTo pos (starEach (e :: es) X.env)) []) _ _ _
  refine PyProof.Rows.callWith_method1 (thn (ha.run pos pins _ σ H _ (I.tok _) h) fun us s1 ⟨vs, H1, I1, r1, a, C, ws, ev, hl, T, ea, q⟩ => ?_) he hpl
  subst ev
  cases r1 with
  | @cons _ u0 _ ur ra rw' =>
    obtain rfl : u0 = Value.ref a := ra
    have hlen : ur.length ≤ sizeLine := by
      rw [← Paired.length rw', sizeLine_eq]
      omega
    exact oinit_ok T I1 ea hlen fun s' J => ⟨.non, H1, J, rfl, q⟩
theorem mk_endN {pins : List (Addr × Obj)} {σ : L2.St} {H1 H2 : Hp} {Q : XK} {hp hp2 h2 : Heap} {g1 g2 : Array GenState} {d1 d2 : Drawn} {t1 t2 : Nat} {os1 os2 : OsState} {a C d : Addr} {fs : List (Str × V)} (T : Raises X (.ref C)) (I1 : Inv X pins σ H1 ⟨hp, g1, d1, t1, os1⟩)
    (ha : hp.objs.size ≤ a) (k : ∀ b o, hp.get? b = some o → hp2.get? b = some o) (un : Un (frs X.stack) [] (upd H1 a (exo a C none)) H2 hp2 h2) (hok : HOk X.prog X.w H2 h2) (ho : os2 = os1) (hb : AllBare g2)
    (ea : H2 a = some (exo a C (some d))) (ed : H2 d = some (exd d fs)) (hd1 : H1 d = none) (q : Q (.ref C) (some d) (upd (del H2 a) d (.xd fs))) : L2N.MkP X pins σ Q (.ref a) ⟨h2, g2, d2, t2, os2⟩ := by
  obtain ⟨t0, G, J, kG, ge, hoe, na⟩ := mk_end0 (d2 := d2) (t2 := t2) I1 ha k un hok ho hb ea ed hd1
  exact ⟨a, _, _, ⟨G, g2, d2, t2, os2⟩, _, .ref C, some d, rfl, J, kG, ge, hoe, ⟨rfl, rfl, fun vs e => by
    injection e with e
    rw [← e]
    rfl⟩, rfl, rfl, na, rfl, hb, T, q⟩
theorem pmk_oexN {CX : CXT} {x : Str} {C fI : Addr} {k : Nat} {fd : FuncData} {ps : List Str} {sp : Sp} {ds : List Value} {dvs : List V} (T : OexC X.K C) (iC : PySem.W.findIn X.K (.ref C) "__init__" = some (some (.ref fI))) (tI : PySem.W.typeIn X.K (.ref fI) = some (.type "function"))
    (F1 : FnOk X.prog X.w X.K X.mg X.base CX k fI fd ps sp) (hr : Room (k + 1) X.A) (hb : Binds X.K fd ps ds) (hd : Vals dvs ds) (hx : Passes CX X (fun _ _ _ => False)) (hg : Gl X x) (hm : X.mg x = some (.ref C)) (ha : PA X (e :: es) ta)
    (hdb : (x == ("__debug__" : Str)) = false := by decide) (he : starEach (e :: es) X.env = (false, eval e X.env) :: starEach es X.env := by rfl) (hpl : (backTo pos (starEach es X.env)).any (·.1) = false := by rfl) :
    L2N.PMk X (.Call (.Name x p) (e :: es) [] pos) (tMkO C sp dvs ta) := by
  intro pins s σ H Q I h
  obtain ⟨nm, q, N, bs, bm, sn, sub, ab, col, dd, k0, k1, k2, k3, k5, hC, hbm⟩ := T.cls
  refine wpAny_Call_Name_kw (ld_glob I hg hm ?_ hdb)
  refine PySem.W.callWith_K (h₀ := X.base) I.ok.mod.kin T.kC (thn (ha.run pos pins s σ H _ I h) fun us s1 ⟨vs, H1, I1, r1, hz, q1⟩ => ⟨I1.kIn, ?_⟩) he hpl
  show wpAny _ _ (call (.ref C) us) _ _ _
  obtain ⟨hp, g, dr, tk, os⟩ := s1
  have hsz : hp.objs.size ≤ hp.objs.size + 1 := Nat.le_succ _
  have hn : H1 (hp.objs.size + 1) = none := I1.hok.fresh hsz
  have hq := q1 (hp.objs.size + 1) hn
  have kk : ∀ b o, hp.get? b = some o → ((hp.push (PySem.W.kdv_tup us)).push (PySem.HandSPX.excO C hp.objs.size)).get? b = some o := fun b o e => Heap.get?_push_of_some _ (Heap.get?_push_of_some _ e)
  have hget : ((hp.push (PySem.W.kdv_tup us)).push (PySem.HandSPX.excO C hp.objs.size)).get? (hp.objs.size + 1) = some (PySem.HandSPX.excO C hp.objs.size) := by heap_get
  have I2 : Inv X pins σ (upd H1 (hp.objs.size + 1) (exo (hp.objs.size + 1) C none)) ⟨(hp.push (PySem.W.kdv_tup us)).push (PySem.HandSPX.excO C hp.objs.size), g, dr, tk, os⟩ :=
    I1.laid (t' := tk) (a := hp.objs.size + 1) (o := exo (hp.objs.size + 1) C none) (h' := (hp.push (PySem.W.kdv_tup us)).push (PySem.HandSPX.excO C hp.objs.size)) kk hsz (exo_ok hget)
  have r2 : Vals (V.ref (hp.objs.size + 1) :: (vs ++ dvs)) (Value.ref (hp.objs.size + 1) :: (us ++ ds)) := .cons rfl (r1.append hd)
  have hl : (Value.ref (hp.objs.size + 1) :: us ++ ds).length = ps.length := by
    have e := r2.length
    rw [F1.len _ _ _ _ hq] at e
    exact e.symm
  have hus : us.length ≤ sizeLine := by
    rw [← Paired.length r1, sizeLine_eq]
    omega
  refine wpAny_call (PySem.HandSPX.call_own F.excBase_ValueError (fun Y => PySem.HandSPX.refsVE_contains Y bm hbm) (I1.kIn _ _ hC) (PySem.W.looks_findIn I1.kIn iC) (fun self => PySem.W.bind_fn I1.kIn self tI) hus
    (codeAny_mono (F1.run _ X.stack _ _ ⟨Value.ref (hp.objs.size + 1) :: us, []⟩ (Value.ref (hp.objs.size + 1) :: (us ++ ds)) _ _ (fun _ _ _ => False) (hr.make C us []) (I2.env0.make C us []) (hb _ (Value.ref (hp.objs.size + 1) :: us) I2.kIn hl) r2 hq) fun r s' hq' => ?_))
  cases r with
  | error er => exact hx pins σ _ _ er s' I2 hq'
  | ok fl =>
    cases fl with
    | ret u =>
      obtain ⟨v, H2, os2, bare2, un2, hok2, rv, ev, d, fs, ea, ed, hd1, q2⟩ := hq'
      subst ev
      obtain ⟨h2, g2, d2, t2, os'⟩ := s'
      exact ⟨rv, mk_endN (raises_own T.exC T.tyC) I1 hsz kk un2 hok2 os2 bare2 ea ed hd1 q2⟩
    | next => exact False.elim hq'
    | brk => exact False.elim hq'
    | cont => exact False.elim hq'
end
end DR

set_option Elab.async false
set_option linter.all false
set_option maxRecDepth 100000
set_option maxHeartbeats 4000000
namespace DR
open PySem PySem.Spec PyProof.Rows L2
/-- an exception class with an __init__ of its own, as the written part says it -/
def oexB (K : PySem.W.Frag) (C : Addr) : Bool := match K.lookup C with
  | some ⟨.type T, _, .cls cd, sl⟩ => (match cd.mro, sl.toList with
    | .ref C' :: bm, [_, _, _, _, some (.builtin n), _] => decide (T = "type") && (decide (C' = C) && (decide (n = "ValueError.__new__") && (!cd.hasDel && (cd.hasDict && PySem.HandSPX.refsVE bm))))
    | _, _ => false)
  | _ => false
theorem oexB_ok {K : PySem.W.Frag} {C : Addr} (h : oexB K C = true) : ∃ nm q N bs bm sn sub ab col dd k0 k1 k2 k3 k5, K.lookup C = some (excClassObj nm q C N bs bm true sn sub ab col dd k0 k1 k2 k3 k5 "ValueError.__new__") ∧ PySem.HandSPX.refsVE bm = true := by
  unfold oexB at h
  split at h
  · rename_i T dd cd sl ho
    split at h
    · rename_i C' bm k0 k1 k2 k3 n k5 hm hs
      simp only [Bool.and_eq_true, decide_eq_true_eq, Bool.not_eq_true'] at h
      obtain ⟨rfl, rfl, rfl, hdel, hd, hr⟩ := h
      obtain ⟨nm, bs, mro, ns, qn, hdct, sn, sub, ab, col, del⟩ := cd
      dsimp only at hm hdel hd
      subst hm hdel hd
      have hsl : sl = #[k0, k1, k2, k3, some (.builtin "ValueError.__new__"), k5] := by
        rw [← Array.toList_inj]
        exact hs
      subst hsl
      exact ⟨_, _, _, _, _, _, _, _, _, _, _, _, _, _, _, ho, hr⟩
    · cases h
  · cases h
/-- what is asked of BadYard's class, of its base -/
structure BadX (K : PySem.W.Frag) (mg : Str → Option Value) (C CE : Addr) : Prop where
  T : OexC K C
  g : mg "BadYard" = some (.ref C)
  at_ : PySem.W.findIn K (.ref C) "at" = some none
  why : PySem.W.findIn K (.ref C) "why" = some none
  B : BaseX K CE
  gE : mg "YardError" = some (.ref CE)
section
variable {P : Program} {w : World} {K : PySem.W.Frag} {mg : Str → Option Value} {base : Heap} {C CE : Addr}
def spBadInit (C : Addr) : Sp := fun vs H Q _ => ∃ (e : Addr) (i : Int) (y : Str), vs = [.ref e, .int i, .str y] ∧ H e = some (exo e C none) ∧ 0 ≤ i ∧ i < 1000 ∧ y.length ≤ 100 ∧
  ∀ d, H d = none → d ≠ e → Q .non (upd (upd (upd H d (exd d [("at", .int i)])) e (exo e C (some d))) d (exd d [("why", .str y), ("at", .int i)]))
theorem scBadInit : FnScope ["self", "at", "why"] ["self", "at", "why"] (defScope s_BadYard_init) := ⟨rfl, rfl, rfl, by decide +kernel, rfl, by decide +kernel, by decide +kernel⟩
theorem len_app (a b : Str) : (a ++ b).length = a.length + b.length := by
  show (a.cps ++ b.cps).size = _
  rw [Array.size_append]
  rfl
theorem nat_short : ∀ n : Nat, n < 1000 → (toString ((n : Nat) : Int) : Str).length ≤ 3 := by decide +kernel
theorem int_short {i : Int} (h0 : 0 ≤ i) (h1 : i < 1000) : (toString i : Str).length ≤ 3 := by
  obtain ⟨n, rfl⟩ : ∃ n : Nat, i = (n : Int) := ⟨i.toNat, by omega⟩
  exact nat_short n (by omega)
theorem log_short {i : Int} (h0 : 0 ≤ i) (h1 : i < 1000) : i.natAbs.log2 < 1920 := by
  obtain ⟨n, rfl⟩ : ∃ n : Nat, i = (n : Int) := ⟨i.toNat, by omega⟩
  have h : n < 1000 := by omega
  show n.log2 < 1920
  have : n.log2 ≤ n := Nat.log2_le_self n
  omega
theorem has_badinit (D : IsMeth K C "__init__" "BadYard.__init__" s_BadYard_init) (b : BadX K mg C CE) : HasM P w K mg base C 1 "__init__" ["self", "at", "why"] (spBadInit C) := by
  refine hasM_of D scBadInit (fun _ _ _ _ _ _ us hl => match us, hl with | [_, _, _], _ => rfl) (fun vs H Q E h => ?_) (fun f cdv A outer s H vs Q E hr h => ?_)
  · obtain ⟨e, i, y, rfl, _⟩ := h
    rfl
  · obtain ⟨e, i, y, rfl, he, i0, i1, hy, q⟩ := h
    refine ⟨_, pss_cons (ps_expr (pe_yeinit b.B (by rfl) b.gE (pa_cons (pv 0) (pa_cons (pe_joined (.cons (pe_fmt (pv 2)) (.cons pe_str (.cons (pe_fmt (pv 1)) .nil)))) pa_nil))))
      (pss_cons (ps_ost (pv 0) (pv 1)) (pss_one (ps_ost (pv 0) (pv 2)))), ?_⟩
    have li := int_short i0 i1
    refine ⟨_, rfl, _, rfl, .inl ⟨y, rfl, by rw [sizeLine_eq]; omega, y, rfl, ?_, _, rfl, ?_, _, rfl, .inr ⟨i, rfl, log_short i0 i1, _, rfl, ?_, ?_⟩⟩⟩
    · rw [len_app, sizeLine_eq]
      show 0 + y.length ≤ _
      omega
    · rw [len_app, len_app, sizeLine_eq]
      show 0 + y.length + 4 ≤ _
      omega
    · rw [len_app, len_app, len_app, sizeLine_eq]
      show 0 + y.length + 4 + (toString i : Str).length ≤ _
      omega
    · refine ⟨e, C, _, rfl, by show 1 ≤ 1000; decide, b.T, he, ?_⟩
      refine ⟨_, rfl, _, rfl, e, C, rfl, b.T, b.at_, .inl ⟨he, fun d nd ne => ?_⟩⟩
      refine ⟨_, rfl, _, rfl, e, C, rfl, b.T, b.why, .inr ⟨d, _, upd_same, (upd_ne ne).trans upd_same, by show 1 ≤ 900; decide, q d nd ne⟩⟩
end
section
variable {X : Cx} {C CE : Addr} {e : Expr} {es : List Expr} {ta : TA} {W : WX} {p pos pos2 : Pos} {k j : Nat}
/-- raise BadYard(.., ..) -/
theorem ps_bad (hc : X.calm = true) (tk : L2N.Takes X W) (b : BadX X.K X.mg C CE) (BI : HasM X.prog X.w X.K X.mg X.base C k "__init__" ["self", "at", "why"] (spBadInit C)) (hr : Room j X.A) (l : k + 1 ≤ j) (hg : Gl X "BadYard") (ha : PA X (e :: es) ta)
    (he : starEach (e :: es) X.env = (false, eval e X.env) :: starEach es X.env := by rfl) (hpl : (backTo pos (starEach es X.env)).any (·.1) = false := by rfl) :
    PS X (.Raise (some (.Call (.Name "BadYard" p) (e :: es) [] pos)) none pos2) (fun _ σ H => tMkO C (spBadInit C) [] ta σ H fun cls d H' => W cls d σ H') := by
  obtain ⟨f, fd, M, F, B⟩ := BI
  exact L2N.ps_raise (W := W) hc tk (pmk_oexN (dvs := []) (ds := []) b.T M.at_ (beq_iff_eq.mp M.fn) F (hr.mono l) B .nil pass0 hg b.g ha (by decide) he hpl)
end
/-- what is left to say behind the arguments -/
theorem bad_go {C : Addr} {H1 : Hp} {i : Int} {y : Str} {Q : XK} (i0 : 0 ≤ i) (i1 : i < 1000) (hy : y.length ≤ 100) (q : ∀ H2 d, Same H1 H2 → H1 d = none → H2 d = some (.xd [("why", .str y), ("at", .int i)]) → Q (.ref C) (some d) H2) :
    [V.int i, V.str y].length ≤ 1000 ∧ ∀ a, H1 a = none → spBadInit C (.ref a :: ([V.int i, V.str y] ++ [])) (upd H1 a (exo a C none))
      (fun v H2 => v = .non ∧ ∃ (d : Addr) (fs : List (Str × V)), H2 a = some (exo a C (some d)) ∧ H2 d = some (exd d fs) ∧ H1 d = none ∧ Q (.ref C) (some d) (upd (del H2 a) d (.xd fs))) (fun _ _ _ => False) := by
  refine ⟨by show 2 ≤ 1000; decide, fun a na => ⟨a, i, y, rfl, upd_same, i0, i1, hy, fun d nd ne => ⟨rfl, d, [("why", .str y), ("at", .int i)], (upd_ne (Ne.symm ne)).trans upd_same, upd_same, ?_, ?_⟩⟩⟩
  · rw [upd_ne ne] at nd
    exact nd
  · have nd1 : H1 d = none := by
      rw [upd_ne ne] at nd
      exact nd
    refine q _ d (fun b o eb => ?_) nd1 upd_same
    have bd : b ≠ d := ne_of_none eb nd1
    have ba : b ≠ a := ne_of_none eb na
    rw [upd_ne bd, del_ne ba, upd_ne bd, upd_ne ba, upd_ne bd, upd_ne ba]
    exact eb
end DR

set_option Elab.async false
set_option linter.all false
set_option maxRecDepth 100000
set_option maxHeartbeats 4000000
namespace DR
open PySem PySem.Spec PyProof.Rows L2
/-- what is asked of BadText's class, of its base -/
structure TxtX (K : PySem.W.Frag) (mg : Str → Option Value) (C CE : Addr) : Prop where
  T : OexC K C
  g : mg "BadText" = some (.ref C)
  row : PySem.W.findIn K (.ref C) "row" = some none
  B : BaseX K CE
  gE : mg "YardError" = some (.ref CE)
section
variable {P : Program} {w : World} {K : PySem.W.Frag} {mg : Str → Option Value} {base : Heap} {C CE : Addr}
def spTxtInit (C : Addr) : Sp := fun vs H Q _ => ∃ (e : Addr) (i : Int), vs = [.ref e, .int i] ∧ H e = some (exo e C none) ∧ 0 ≤ i ∧ i < 1000 ∧ ∀ d, H d = none → d ≠ e → Q .non (upd (upd H d (exd d [("row", .int i)])) e (exo e C (some d)))
theorem scTxtInit : FnScope ["self", "row"] ["self", "row"] (defScope s_BadText_init) := ⟨rfl, rfl, rfl, by decide +kernel, rfl, by decide +kernel, by decide +kernel⟩
theorem has_txtinit (D : IsMeth K C "__init__" "BadText.__init__" s_BadText_init) (b : TxtX K mg C CE) : HasM P w K mg base C 1 "__init__" ["self", "row"] (spTxtInit C) := by
  refine hasM_of D scTxtInit (fun _ _ _ _ _ _ us hl => match us, hl with | [_, _], _ => rfl) (fun vs H Q E h => ?_) (fun f cdv A outer s H vs Q E hr h => ?_)
  · obtain ⟨e, i, rfl, _⟩ := h
    rfl
  · obtain ⟨e, i, rfl, he, i0, i1, q⟩ := h
    refine ⟨_, pss_cons (ps_expr (pe_yeinit b.B (by rfl) b.gE (pa_cons (pv 0) (pa_cons (pe_joined (.cons pe_str (.cons (pe_fmt (pv 1)) .nil))) pa_nil))))
      (pss_one (ps_ost (pv 0) (pv 1))), ?_⟩
    have li := int_short i0 i1
    refine ⟨_, rfl, _, rfl, ?_, _, rfl, .inr ⟨i, rfl, log_short i0 i1, _, rfl, ?_, ?_⟩⟩
    · rw [len_app, sizeLine_eq]
      show 0 + 4 ≤ _
      omega
    · rw [len_app, len_app, sizeLine_eq]
      show 0 + 4 + (toString i : Str).length ≤ _
      omega
    · refine ⟨e, C, _, rfl, by show 1 ≤ 1000; decide, b.T, he, ?_⟩
      exact ⟨_, rfl, _, rfl, e, C, rfl, b.T, b.row, .inl ⟨he, fun d nd ne => q d nd ne⟩⟩
end
section
variable {X : Cx} {C CE : Addr} {e : Expr} {es : List Expr} {ta : TA} {W : WX} {p pos pos2 : Pos} {k j : Nat}
/-- raise BadText(..) -/
theorem ps_badT (hc : X.calm = true) (tk : L2N.Takes X W) (b : TxtX X.K X.mg C CE) (BI : HasM X.prog X.w X.K X.mg X.base C k "__init__" ["self", "row"] (spTxtInit C)) (hr : Room j X.A) (l : k + 1 ≤ j) (hg : Gl X "BadText") (ha : PA X (e :: es) ta)
    (he : starEach (e :: es) X.env = (false, eval e X.env) :: starEach es X.env := by rfl) (hpl : (backTo pos (starEach es X.env)).any (·.1) = false := by rfl) :
    PS X (.Raise (some (.Call (.Name "BadText" p) (e :: es) [] pos)) none pos2) (fun _ σ H => tMkO C (spTxtInit C) [] ta σ H fun cls d H' => W cls d σ H') := by
  obtain ⟨f, fd, M, F, B⟩ := BI
  exact L2N.ps_raise (W := W) hc tk (pmk_oexN (dvs := []) (ds := []) b.T M.at_ (beq_iff_eq.mp M.fn) F (hr.mono l) B .nil pass0 hg b.g ha (by decide) he hpl)
end
theorem badT_go {C : Addr} {H1 : Hp} {i : Int} {Q : XK} (i0 : 0 ≤ i) (i1 : i < 1000) (q : ∀ H2 d, Same H1 H2 → H1 d = none → H2 d = some (.xd [("row", .int i)]) → Q (.ref C) (some d) H2) :
    [V.int i].length ≤ 1000 ∧ ∀ a, H1 a = none → spTxtInit C (.ref a :: ([V.int i] ++ [])) (upd H1 a (exo a C none))
      (fun v H2 => v = .non ∧ ∃ (d : Addr) (fs : List (Str × V)), H2 a = some (exo a C (some d)) ∧ H2 d = some (exd d fs) ∧ H1 d = none ∧ Q (.ref C) (some d) (upd (del H2 a) d (.xd fs))) (fun _ _ _ => False) := by
  refine ⟨by show 1 ≤ 1000; decide, fun a na => ⟨a, i, rfl, upd_same, i0, i1, fun d nd ne => ⟨rfl, d, [("row", .int i)], upd_same, (upd_ne ne).trans upd_same, ?_, ?_⟩⟩⟩
  · rw [upd_ne ne] at nd
    exact nd
  · have nd1 : H1 d = none := by
      rw [upd_ne ne] at nd
      exact nd
    refine q _ d (fun b o eb => ?_) nd1 upd_same
    have bd : b ≠ d := ne_of_none eb nd1
    have ba : b ≠ a := ne_of_none eb na
    rw [upd_ne bd, del_ne ba, upd_ne ba, upd_ne bd, upd_ne ba]
    exact eb
end DR

set_option Elab.async false
set_option linter.all false
set_option maxRecDepth 100000
set_option maxHeartbeats 4000000
namespace DR
open PySem PySem.Spec PyProof.Rows L2
open GxR (TabB TabG Tabbed)
/-! #### numbers_of of any row -/
def numOf (w : Str) : Int := (PySem.intText? w).getD 0
def rowNums (name : Str) (many : Nat) (row : Str) : Option (List Int) := match Txt.split row " " with
  | [] => none
  | f :: ws => if f = name ∧ ws.length = many ∧ ws.all isNum = true then some (ws.map numOf) else none
theorem split_ne (x : Str) : Txt.split x " " ≠ [] := fun e => by
  have h := PySem.StrLaws.join_split x " "
  rw [e] at h
  have h2 : x = Str.join " " [] := h.symm
  rw [h2] at e
  exact absurd e (by decide +kernel)
theorem part_len (y : Str) : ∀ (parts : List Str) (w : Str), w ∈ parts → w.length ≤ (Str.join y parts).length
  | [], w, h => by cases h
  | [x], w, h => by
    rw [List.mem_singleton.mp h]
    exact Nat.le_refl _
  | x :: z :: r, w, h => by
    show w.length ≤ (x ++ y ++ Str.join y (z :: r)).length
    rw [app_len, app_len]
    rcases List.mem_cons.mp h with e | e
    · rw [e]
      omega
    · have := part_len y (z :: r) w e
      omega
abbrev figs : List Nat := ("0123456789" : Str).cps.toList
theorem int1 : ∀ c ∈ figs, (PySem.intText? ⟨#[c]⟩).isSome = true := by decide +kernel
theorem int2 : ∀ c ∈ figs, ∀ e ∈ figs, (PySem.intText? ⟨#[c, e]⟩).isSome = true := by decide +kernel
theorem isNum_int {z : Str} (h : isNum z = true) : z.length ≤ 2 ∧ PySem.intText? z = some (numOf z) := by
  unfold isNum at h
  split at h
  · cases h
  · rw [Bool.and_eq_true, Bool.or_eq_true, beq_iff_eq, beq_iff_eq, List.all_eq_true] at h
    obtain ⟨hl, ha⟩ := h
    have hz : (PySem.intText? z).isSome = true := by
      have e : z.cps.toList.length = z.length := Array.length_toList
      match hq : z.cps.toList, e with
      | [], e => simp at e; omega
      | [c], _ =>
        have ez : z = ⟨#[c]⟩ := str_eq (by show z.cps.toList = _; rw [hq])
        rw [ez]
        exact int1 c (of_decide_eq_true (ha c (by rw [hq]; simp)))
      | [c, d], _ =>
        have ez : z = ⟨#[c, d]⟩ := str_eq (by show z.cps.toList = _; rw [hq])
        rw [ez]
        exact int2 c (of_decide_eq_true (ha c (by rw [hq]; simp))) d (of_decide_eq_true (ha d (by rw [hq]; simp)))
      | c :: d :: f :: r, e => simp at e; omega
    refine ⟨by omega, ?_⟩
    obtain ⟨i, hi⟩ := Option.isSome_iff_exists.mp hz
    unfold numOf
    rw [hi]
    rfl
section
variable {P : Program} {w : World} {K : PySem.W.Frag} {mg : Str → Option Value} {base : Heap} {c2 T1 T2 CT CE : Addr}
theorem has_ofCE {x : Str} {st : Stmt} {N ps : List Str} {k : Nat} {sp : Sp} {c : Addr} (D : IsDefC K mg x st c) (S : FnScope N ps (defScope st)) (B : Takes0 x x st ps) (len : ∀ vs H Q E, sp vs H Q E → vs.length = ps.length)
    (body : ∀ (f : Addr) (A : Around) (outer : List Env) (s : Shared) (H : Hp) (vs : List V) (Q : VK) (E : XK), Room k (A.deeper (envOfC x (defScope st) s.heap.objs.size f (.ref c))) → sp vs H Q E →
      ∃ t, PSs (cxOf (L2N.CX P w) P w K mg base N x (defScope st) f (.ref c) A outer s H E) (defBody st) t ∧ t { nx := fun _ H' => Q .non H', rt := Q } (start N vs) H) : HasE P w K mg base (k + 1) x ps sp := by
  obtain ⟨f, fd, F, g, hc⟩ := D
  refine ⟨f, fd, g, F.kp, ?_, F.bindsN B⟩
  obtain ⟨oc, od, dV, kV, doc, pm, an, cdv, ct, osl, rfl, lk, hcd, _, _⟩ := F.ex
  have e : cdv = .ref c := hc
  subst e
  exact fn_of lk hcd S len fun A outer s H vs Q E hr hsp => body f A outer s H vs Q E hr hsp
def spNumsE (T1 T2 CT : Addr) : Sp := fun vs H Q E => ∃ (row name : Str) (at_ : Int) (many : Nat), vs = [.str row, .int at_, .str name, .int (many : Int)] ∧ row.length ≤ 1000 ∧ 0 ≤ at_ ∧ at_ < 1000 ∧ T1 ≠ T2 ∧ TabG H T1 ∧ TabG H T2 ∧
  (∀ ns, rowNums name many row = some ns → ∀ l H', Gw T1 T2 H H' → H l = none → H' l = some (.lst (ns.map V.int)) → Q (.ref l) H') ∧
  (rowNums name many row = none → ∀ d H', Gw T1 T2 H H' → H d = none → H' d = some (.xd [("row", .int at_)]) → E (.ref CT) (some d) H')
theorem has_numsE (D : IsDefC K mg "numbers_of" s_numbers_of c2) (TB : TabB base mg c2 T2) (B : Blt mg) (IN : Has P w K mg base 2 "is_number" ["word"] (spIsNum T1)) (b : TxtX K mg CT CE) (BI : HasM P w K mg base CT 1 "__init__" ["self", "row"] (spTxtInit CT)) :
    HasE P w K mg base 4 "numbers_of" ["row", "at", "name", "many"] (spNumsE T1 T2 CT) := by
  refine has_ofCE D scNums (fun _ _ _ _ _ _ us hl => match us, hl with | [_, _, _, _], _ => rfl) (fun vs H Q E h => ?_) (fun f A outer s H vs Q E hr h => ?_)
  · obtain ⟨row, name, at_, many, rfl, _⟩ := h
    rfl
  · obtain ⟨row, name, at_, many, rfl, rl, a0, a1, ne, t1, t2, good, bad⟩ := h
    refine ⟨_, pss_cons (ps_asg (pe_split (pv 0) pe_str) (pg_star (by rfl) (pg_name (i := 4) scNums.nd rfl (.inl rfl)) (pg_name (i := 5) scNums.nd rfl (.inl rfl))))
      (pss_cons (ps_if (PW.pt (pw_or (pt_cmpR op_ne (pv 4) (pv 2) (nomark _)) (pw_or (pt_cmpR op_ne (pe_callB call_len_seq (by rfl) B.len PySem.boot_len (pa_cons (pv 5) pa_nil)) (pv 3) (nomark _))
          (pw_or1 (pt_not (pt_truth (pe_allG (k := 2) hr (by rfl) B.all (by decide +kernel) TB rfl ⟨rfl, rfl, by decide +kernel, by decide +kernel, rfl, rfl⟩ (pi_list (pv 5)) (fun A' s0 H0 fp C code hr' => pe_has IN hr' (by decide) (by rfl) (pa_cons (pv 0) pa_nil)) (fun _ => rfl)) (by intro _; rfl)))))))
          (pss_one (ps_badT (by rfl) (L2N.takes_of rfl rfl rfl rfl) b BI hr (by decide) (by rfl) (pa_cons (pv 1) pa_nil))) pss_nil)
      (pss_one (ps_ret (pe_lc (own := [("word", 6)]) (g := gName 6) (tt := tYes) (by rfl) scNums.nd (pi_list (pv 5)) (blkOk_by (N := nNums) (sc := defScope s_numbers_of) (by decide +kernel)) (fun _ _ _ _ _ => pg_name (i := 6) scNums.nd rfl (.inl rfl)) (fun _ _ _ _ _ => pts_nil)
          (fun _ _ _ _ _ => pe_callTy call_int_str (by rfl) B.int (by decide +kernel) (pa_cons (pv 6) pa_nil)))))), ?_⟩
    have rs : row.length + 2 ≤ sizeLine := Nat.le_trans (Nat.add_le_add_right rl 2) (by decide)
    obtain ⟨f0, ws, sp⟩ : ∃ f0 ws, Txt.split row " " = f0 :: ws := by
      cases e : Txt.split row " " with
      | nil => exact absurd e (split_ne row)
      | cons f0 ws => exact ⟨f0, ws, rfl⟩
    have rn : rowNums name many row = if f0 = name ∧ ws.length = many ∧ ws.all isNum = true then some (ws.map numOf) else none := by
      unfold rowNums
      rw [sp]
    have wl : ∀ z ∈ ws, z.length ≤ 1000 := fun z hz => by
      have h := part_len " " (Txt.split row " ") z (by rw [sp]; exact List.mem_cons_of_mem _ hz)
      rw [PySem.StrLaws.join_split] at h
      omega
    refine ⟨_, rfl, ⟨row, rfl⟩, row, " ", rfl, rfl, rfl, rs, fun p np => ?_⟩
    have s1 : Same H (upd H p (.lst ((Txt.split row " ").map V.str))) := same_new np
    refine ⟨p, .str f0, ws.map V.str, rfl, SqL.of (by rw [upd_same, sp]; rfl), fun D nD => ?_⟩
    have s2 := s1.trans (same_new (o := .lst (ws.map V.str)) nD)
    have eD : upd (upd H p (.lst ((Txt.split row " ").map V.str))) D (.lst (ws.map V.str)) D = some (.lst (ws.map V.str)) := upd_same
    generalize upd (upd H p (.lst ((Txt.split row " ").map V.str))) D (.lst (ws.map V.str)) = H2 at s2 eD
    have u1 := tabG_same t1 s2
    have u2 := tabG_same t2 s2
    have g2 : Gw T1 T2 H H2 := .of t1 t2 s2
    have lw : (ws.map V.str).length = ws.length := List.length_map ..
    have raise : ∀ H5, Gw T1 T2 H H5 → rowNums name many row = none → [V.int at_].length ≤ 1000 ∧ ∀ a, H5 a = none → spTxtInit CT (.ref a :: ([V.int at_] ++ [])) (upd H5 a (exo a CT none))
        (fun v H2 => v = .non ∧ ∃ (d : Addr) (fs : List (Str × V)), H2 a = some (exo a CT (some d)) ∧ H2 d = some (exd d fs) ∧ H5 d = none ∧ E (.ref CT) (some d) (upd (del H2 a) d (.xd fs))) (fun _ _ _ => False) :=
      fun H5 g hn => badT_go a0 a1 fun H6 d s6 nd ed => bad hn d H6 (g.same2 s6) (g.none_ d nd) ed
    refine ⟨_, rfl, _, rfl, rfl, _, rfl, ?_⟩
    by_cases e1 : f0 = name
    · rw [show (!decide (V.str f0 = V.str name)) = false by rw [e1]; simp]
      refine iteF ⟨_, rfl, D, _, rfl, .inl (SqL.of eD), _, rfl, rfl, _, rfl, ?_⟩
      by_cases e2 : ws.length = many
      · rw [lw, show (!decide (V.int (ws.length : Int) = V.int (many : Int))) = false by rw [e2]; simp]
        refine iteF ⟨_, rfl, D, rfl, ⟨_, SqL.of eD⟩, u2, fun H3 tb => ?_⟩
        have g3 : Gw T1 T2 H H3 := g2.trans (.tab2 u1 u2 tb ne)
        have fin : ∀ H4, Gw T1 T2 H3 H4 → H4 D = some (.lst (ws.map V.str)) := fun H4 g => g.lst ((Gw.tab2 u1 u2 tb ne).lst eD)
        refine ⟨ws.length, trL isNum ws, fun j H4 => Gw T1 T2 H3 H4, .refl g3.t1 g3.t2, fun j H4 hj g => ?_, fun H4 g => ?_, fun j H4 v H5 hj g y => ?_, fun j H4 g => ?_⟩
        · have e := fin H4 g
          exact ⟨_, _, SqL.of e, List.getElem?_eq_getElem (by rw [lw]; exact hj)⟩
        · exact ⟨_, SqL.of (fin H4 g), by rw [lw]; exact Nat.le_refl _⟩
        · obtain ⟨rfl, y⟩ := y
          have e := y _ (SqL.of (fin _ g))
          rw [List.getElem?_map] at e
          obtain ⟨z, hz⟩ : ∃ z, ws[j]? = some z := ⟨_, List.getElem?_eq_getElem hj⟩
          rw [hz] at e
          obtain rfl : V.str z = v := Option.some.inj e
          refine ⟨_, rfl, z, rfl, wl z (List.mem_of_getElem? hz), g.t1, fun H0 H6 s t => ⟨?_, ?_⟩⟩
          · rw [trL_some hz]
          · have a : Gw T1 T2 H5 H0 := .of g.t1 g.t2 s
            exact g.trans (a.trans (.tab1 a.t1 a.t2 t ne))
        · rw [all_trL]
          refine ⟨_, rfl, ?_⟩
          cases e3 : ws.all isNum with
          | false =>
            refine iteT ?_
            exact ⟨_, rfl, raise H4 (g3.trans g) (by rw [rn, if_neg (by rw [e3]; simp)])⟩
          | true =>
            refine iteF ?_
            have e := fin H4 g
            have hr3 := rn.trans (if_pos ⟨e1, e2, e3⟩)
            rw [List.all_eq_true] at e3
            have few : ws.length ≤ 1000 := by
              have h : ∀ (l : List Str) (x : Str), l.length ≤ (Str.join " " (x :: l)).length := by
                intro l
                induction l with
                | nil => intro x; exact Nat.zero_le _
                | cons a r ih =>
                  intro x
                  show _ ≤ (x ++ " " ++ Str.join " " (a :: r)).length
                  rw [app_len, app_len]
                  have := ih a
                  have e2 : (" " : Str).length = 1 := rfl
                  simp only [List.length_cons]
                  omega
              have := h ws f0
              rw [← sp, PySem.StrLaws.join_split] at this
              omega
            refine ⟨_, rfl, D, rfl, ⟨_, SqL.of e⟩, fun L nL => lc_ints (zs := ws) (ns := ws.map numOf) e nL few (List.length_map ..) (fun _ => rfl) (fun z i H5 R hz s fin => ?_) (fun H5 s5 eL => ?_)⟩
            · obtain ⟨m, hm⟩ := List.getElem?_of_mem hz
              obtain ⟨h1, h2⟩ := List.getElem?_zip_eq_some.mp hm
              rw [List.getElem?_map, h1] at h2
              obtain rfl : numOf z = i := Option.some.inj h2
              obtain ⟨q1, q2⟩ := isNum_int (e3 z (List.mem_of_getElem? h1))
              exact ⟨_, rfl, z, numOf z, rfl, q2, by omega, fin _ (Same.refl _)⟩
            · have g5 := (g3.trans g).same2 s5
              exact good _ hr3 L H5 g5 ((g3.trans g).none_ L nL) eL
      · rw [lw, show (!decide (V.int (ws.length : Int) = V.int (many : Int))) = true by
          rw [Bool.not_eq_true', decide_eq_false_iff_not]
          intro z
          have := V.int.inj z
          exact e2 (by omega)]
        refine iteT (iteT ?_)
        exact ⟨_, rfl, raise H2 g2 (by rw [rn, if_neg (fun z => e2 z.2.1)])⟩
    · rw [show (!decide (V.str f0 = V.str name)) = true by
        rw [Bool.not_eq_true', decide_eq_false_iff_not]
        intro z
        exact e1 (V.str.inj z)]
      refine iteT (iteT ?_)
      exact ⟨_, rfl, raise H2 g2 (by rw [rn, if_neg (fun z => e1 z.1)])⟩
end
end DR

set_option Elab.async false
set_option linter.all false
set_option maxRecDepth 100000
set_option maxHeartbeats 4000000
/-! ### enumerate(list, start=k) -/
namespace DR
open PySem PySem.Spec PyProof.Rows L2
def IteS (K : PySem.W.Frag) (a : Addr) (k0 : Int) : It :=
  ⟨fun i H => ∃ (xs : List V) (x : V), SqL K H a xs ∧ xs[i]? = some x, fun i H v H' => ∃ T x, v = .ref T ∧ H T = none ∧ H' = upd H T (.tup [.int (k0 + (i : Nat)), x]) ∧ ∀ xs, SqL K H a xs → xs[i]? = some x, fun i H => ∃ xs : List V, SqL K H a xs ∧ xs.length ≤ i⟩
theorem turn_enumS {P : Program} {w : World} {K : PySem.W.Frag} {elts : List Expr} {kk : Nat} {tpos : Pos} (a e it : Addr) (k0 : Int) :
    Turn P w K (.Tuple elts kk tpos) (IteS K a k0) [e, it] e (fun i h => (∃ old, IsEnum h e it (k0 + ((i : Nat) : Int)) old) ∧ h.IsListIter it a i ∧ e ≠ it) where
  mem := by simp
  obj := fun i h st b hb => by
    obtain ⟨⟨old, he⟩, ⟨o, ho, hc, hd⟩, _⟩ := st
    have e' : b = e ∨ b = it := by simpa using hb
    rcases e' with z | z
    · rw [z]; exact ⟨_, he, fun v q => nomatch q⟩
    · rw [z]; exact ⟨o, ho, fun v q => by rw [hd] at q; cases q⟩
  keep := fun i h h' st k => let ⟨⟨old, he⟩, hi, hne⟩ := st; ⟨⟨old, k e (by simp) _ he⟩, hi.at fun o q => k it (by simp) o q, hne⟩
  item := by
    intro X hP hw hK hc i pins s σ H E I hf st hg
    subst hP hw hK
    obtain ⟨⟨old, he⟩, hit, hne⟩ := st
    obtain ⟨xs, x, hq, hx⟩ := hg
    obtain ⟨its, rv, p, hz⟩ := I.list hq
    obtain ⟨u, hu, ru⟩ := rv.get hx
    have hel : e < s.heap.objs.size := Heap.lt_size he
    have hil : it < s.heap.objs.size := by obtain ⟨_, q, _⟩ := hit; exact Heap.lt_size q
    have ai : a ≠ it := fun z => by
      obtain ⟨o, q, c, _⟩ := hit
      obtain ⟨o2, q2, c2, _⟩ := p.isList
      rw [z, q] at q2
      cases q2
      rw [c] at c2
      exact absurd c2 (by decide)
    have ae : a ≠ e := fun z => by
      obtain ⟨o2, q2, c2, _⟩ := p.isList
      rw [z, he] at q2
      cases q2
      have c3 : Value.type "enumerate" = Value.type "list" := c2
      exact absurd c3 (by decide)
    have lt : i < its.toArray.size := by
      have := (List.getElem?_eq_some_iff.mp hu).1
      simpa using this
    refine wpAny_pyNext_enum_itemC (Draws.list (A := X.A.in1) (I.ok.hd hc) it a ai its.toArray) he ⟨hit, p.isList⟩ lt hne (by simp [hne, Ne.symm ae]) fun y h' tk hy ho hit' hT hsz hk => ?_
    obtain rfl : u = y := by
      have h1 : its.toArray[i]? = some y := hy
      rw [List.getElem?_toArray, hu] at h1
      exact Option.some.inj h1
    refine ⟨_, rfl, wpAny_letOwnedTupleGo_enum (s := { s with heap := h', toks := tk + 1 }) ho fun h'' he' sb => ?_⟩
    have hT2 : h''.get? s.heap.objs.size = some { cls := .type "tuple", data := .seq #[.int (k0 + (i : Nat)) tk, u] } := (sb.2 _ (Nat.ne_of_gt hel)).trans hT
    have new : ObjOk X.prog X.w (upd H s.heap.objs.size (.tup [.int (k0 + (i : Nat)), x])) h'' s.heap.objs.size (.tup [.int (k0 + (i : Nat)), x]) :=
      ⟨by show 2 ≤ sizeLine; decide, [.int (k0 + (i : Nat)) tk, u], .cons ⟨_, rfl⟩ (.cons ru .nil), ⟨_, hT2, rfl, _, rfl⟩⟩
    have I1 : Inv X pins σ (upd H s.heap.objs.size (.tup [.int (k0 + (i : Nat)), x])) { s with heap := h'', toks := tk + 1 } :=
      I.turnedNew (ch := [e, it]) (fun b ob hb q => (sb.2 b (fun z => hb (by simp [z]))).trans (hk b ob (fun z => hb (by simp [z])) (fun z => hb (by simp [z])) q)) hf (Nat.le_refl _) new
    refine ⟨.ref s.heap.objs.size, _, I1, rfl, ⟨_, x, rfl, I.hok.fresh (Nat.le_refl _), rfl, fun ys hy => by rw [I.list_inj hy hq]; exact hx⟩, ⟨⟨u, ?_⟩, hit'.1.at fun o q => (sb.2 it (Ne.symm hne)).trans q, hne⟩, fun b hb => ?_⟩
    · have e1 : k0 + ((i + 1 : Nat) : Int) = k0 + (i : Int) + 1 := by omega
      rw [e1]; exact he'
    · have hb' : b < s.heap.objs.size := by
        have e' : b = e ∨ b = it := by simpa using hb
        rcases e' with z | z
        · rw [z]; exact hel
        · rw [z]; exact hil
      rw [upd_ne (Nat.ne_of_lt hb')]
      exact (hf b hb).1
  done := by
    intro X hP hw hK hc i pins s σ H E I hf st hg
    subst hP hw hK
    obtain ⟨⟨old, he⟩, hit, hne⟩ := st
    obtain ⟨xs, hq, hx⟩ := hg
    obtain ⟨its, rv, p, hz⟩ := I.list hq
    obtain ⟨f0, f1, f2, f3, f4, f5⟩ := hf it (by simp)
    have hl := rv.length
    have hT : s.TypeIs (.ref e) "enumerate" := ⟨_, he, rfl⟩
    unfold pyNext
    refine wpAny_bind (wpAny_attempt (wpAny_callSpecial?_slot (name := Str.ofString "__next__") hT F.slot_enumerate_next
      (wpAny_call_entry F.slot_enumerate_next hT F.entry_enumerate_next ?_ (F.args_enumerate_next_1 _))))
    show wpAny _ _ (field (.ref e) 2 >>= _) _ _ _
    refine wpAny_bind (wpAny_field he rfl (x := .ref it) rfl ?_)
    refine wpAny_bind (wpAny_nextOf_list_end (A := X.A.in1) (I.ok.hd hc) hit p.isList (by simp; omega) fun h' x he' hx' => ?_)
    obtain ⟨o, ho, hc'⟩ := hx'
    refine wpAny_bind (wpAny_isInstance (T := "StopIteration") (b := true) ⟨o, ho, hc'⟩ isSubtype_stop ?_)
    exact wpAny_pure ⟨rfl, I.turned (t' := s.toks) (fun b o hb q => he' b o hb q) f0 f1 f3 f4 f5⟩
  self := fun A i s Q E st h => let ⟨⟨_, he⟩, _⟩ := st; wpAny_pyIter_enum he h
theorem callWith_typeKw {M : Model} {A : Around} {E : Value → Shared → Prop} {s : Shared} {env : Env} {pos : Pos} {T : String} {e : Expr} {rest : List Expr} {kws : List Keyword} {Q : Value → Shared → Prop}
    (h : wpAny M A (spliced (backTo pos (starEach (e :: rest) env))) (fun vs s₁ => wpAny M A (evalAll ((backToKw pos (keywordEach kws env)).map (·.2)))
      (fun kvs s₂ => wpAny M A (call (.type T) vs (((backToKw pos (keywordEach kws env)).filterMap (·.1)).zip kvs)) Q E s₂) E s₁) E s)
    (he : starEach (e :: rest) env = (false, eval e env) :: starEach rest env := by rfl) (hplain : (backTo pos (starEach rest env)).any (·.1) = false := by rfl) (hall : (backToKw pos (keywordEach kws env)).all (·.1.isSome) = true := by rfl)
    (hkw : (backToKw pos (keywordEach kws env)).any (·.1.isNone) = false := by rfl) : wpAny M A (callWith pos (.type T) [] (backTo pos (starEach (e :: rest) env)) (backToKw pos (keywordEach kws env))) Q E s := by
  have hp : (backTo pos (starEach (e :: rest) env)).any (·.1) = false := by
    rw [he]
    show (false || (backTo pos (starEach rest env)).any (·.1)) = false
    rw [hplain]
    rfl
  unfold callWith
  refine wpAny_bind (wpAny_holding (wpAny_mono (evalArgs_kw2 (Q := fun a s₁ => wpAny M A (call (.type T) ([] ++ a.pos) a.kw) Q E s₁) hall h he) (fun a s₁ h₁ => wpAny_bind (wpAny_standAt ?_)) fun _ _ x => x))
  simp only [hp, hkw, Bool.or_false]
  refine wpAny_bind (wpAny_pure ?_)
  exact wpAny_bind (wpAny_mono h₁ (fun r s₂ hr => wpAny_bind (wpAny_holding (wpAny_point (wpAny_pure hr)))) fun _ _ x => x)
def iEnumS (K : PySem.W.Frag) (k0 : Int) (ta : TA) : TI := fun σ H R => ta σ H fun vs H1 => ∃ a xs, vs = [.ref a] ∧ SqL K H1 a xs ∧ R (IteS K a k0) H1
theorem pi_enumS {X : Cx} {e : Expr} {ta : TA} {p pos tpos kp cp : Pos} {elts : List Expr} {kk : Nat} {k0 : Int} {j : Nat} (hg : Gl X "enumerate") (hm : X.mg "enumerate" = none) (ha : PA X [e] ta) (h1 : -(2 ^ 63) ≤ k0) (h2 : k0 < 2 ^ 63) (hs : starEach [e] X.env = (false, eval e X.env) :: starEach [] X.env := by rfl) :
    PI X (.Tuple elts kk tpos) (.Call (.Name "enumerate" p) [e] [⟨some "start", .Constant (.int k0) j cp, kp⟩] pos) (iEnumS X.K k0 ta) := by
  refine ⟨fun pins s σ H R I h => ?_⟩
  refine wpAny_Call_Name_kw (ld_blt I hg hm boot_enumerate (callWith_typeKw (thn (ha.run pos pins s σ H _ I h) fun us s1 ⟨vs, H1, I1, r1, q1⟩ => ?_) hs))
  obtain ⟨a, xs, ex, hq, q⟩ := q1
  subst ex
  refine thn ((pk_cons (nm := some "start") (kpos := kp) pe_int pk_nil).run pos pins s1 σ H1 (fun zs H2 => zs = [.int k0] ∧ H2 = H1) I1 ⟨rfl, rfl⟩) fun ws s2 ⟨zs, H2, I2, r2, ez, eH⟩ => ?_
  subst ez eH
  cases r1 with
  | cons r rr =>
    cases rr
    cases r
    cases r2 with
    | cons rk rkk =>
      cases rkk
      obtain ⟨t, rfl⟩ := _root_.id rk
      obtain ⟨its, rv, p', hz⟩ := I2.list hq
      show wpAny _ _ (call (.type "enumerate") [.ref a] [(Str.ofString "start", .int k0 t)]) _ _ s2
      refine enum_begins_start (begins_list a its.toArray) p'.isList h1 h2 fun h' he hit hsz hk => wpAny_pyIter_enum he ?_
      have I3 : Inv X pins σ H2 { s2 with heap := h' } := I2.kept (t' := s2.toks) hk
      refine ⟨s2.heap.objs.size + 1, [s2.heap.objs.size + 1, s2.heap.objs.size], _, _, H2, rfl, I3, turn_enumS a (s2.heap.objs.size + 1) s2.heap.objs.size k0, ⟨⟨.none, by rw [show k0 + ((0 : Nat) : Int) = k0 by omega]; exact he⟩, ⟨_, hit, rfl, rfl⟩, Nat.succ_ne_self _⟩, fun b hb => ?_, q⟩
      have e' : b = s2.heap.objs.size + 1 ∨ b = s2.heap.objs.size := by simpa using hb
      have hle : s2.heap.objs.size ≤ b := by
        rcases e' with z | z
        · rw [z]; exact Nat.le_add_right _ _
        · rw [z]; exact Nat.le_refl _
      exact I2.fpOk hle (I2.hok.fresh hle)
end DR

set_option Elab.async false
set_option linter.all false
set_option maxRecDepth 100000
set_option maxHeartbeats 4000000
/-! ### a list comprehension whose element may raise -/
namespace DR
open PySem PySem.Spec PyProof.Rows L2
theorem funFrames_but {h h' B B' : Heap} {C : Addr} (hk : ∀ b o, b ≠ C → h.get? b = some o → h'.get? b = some o) (hB : ∀ b, B.get? b = none → B'.get? b = none) : ∀ {l : List Env}, (∀ b ∈ frs l, b ≠ C) → h.FunFrames B l → h'.FunFrames B' l
  | [], _, _ => trivial
  | env :: r, hs, hl => by
    obtain ⟨k, ⟨L, o, hf, hn, ho, hd⟩, hr⟩ := hl
    have hm : L ∈ frs (env :: r) := by unfold frs; rw [List.filterMap_cons, hf]; exact List.mem_cons_self
    exact ⟨k, ⟨L, o, hf, hB L hn, hk L o (hs L hm) ho, hd⟩, funFrames_but hk hB (fun b hb => hs b (by unfold frs at hb ⊢; rw [List.filterMap_cons, hf]; exact List.mem_cons_of_mem _ hb)) hr⟩
section
variable {X : Cx} {pins : List (Addr × Obj)} {σ : L2.St} {H : Hp} {s s' : Shared} {W : WX} {E : XK} {C : Addr}
/-- a call's exception in a block's air: the block's names at C may change; it goes on in the def's own air -/
theorem xe_block (I : Inv X pins σ H s) (hs : X.stack = X.env :: X.outer) (hf : X.env.frame = some X.env.locals) (tk : L2N.Takes X W) (hW : ∀ cls d H', E cls d H' → W cls d σ H') (fC : FpOk X pins H C) {m : Str → Option Value} (nC : s.heap.Ns C m) {u : Value}
    (c : L2N.CX X.prog X.w X.stack H s E u s') {E₁ : Value → Shared → Prop} {wh : String} :
    wpAny (model X.prog X.w) X.A (noteFrame u X.env) (fun _ s1 => ∃ m, s1.heap.Ns C m ∧ ∀ h', Heap.SameBut C s1.heap h' → ∀ cenv : Env, cenv.locals = C → cenv.frame = X.env.frame →
      wpAny (model X.prog X.w) X.A (passOn wh u cenv : Sem Value) (fun _ _ => False) X.xe { s1 with heap := h' }) E₁ s' := by
  obtain ⟨a, B, H', cls, d, rfl, fl, hok, ub, na, os, ag, hE⟩ := c
  have hfr : X.A.frames = some (X.env :: X.outer) := by rw [I.ok.frames, hs]
  obtain ⟨c0, c1, c2, c3, c4, c5⟩ := id fC
  have Cfr : C ∉ frs X.stack := fun z => by
    rcases List.mem_cons.mp (I.stkSub C z) with z | z
    · exact c1 z
    · exact c2 z
  obtain ⟨oC, es, ep, hC, rC⟩ := id nC
  have BC : B.get? C = some oC := ub.keep C oC hC c0 Cfr
  have HC : H' C = none := ub.free C oC hC c0
  have fl2 : HandSPX.FlyingZ B (X.env :: X.outer) a (L2N.Zn cls d) s'.heap := by rw [← hs]; exact fl
  refine PXN.looks_onZ L2N.Zn.steady hfr hf fl2 fun h1 hh up => ?_
  refine ⟨m, ⟨oC, es, ep, hh.1 C oC BC, rC⟩, fun h' sb cenv hl hcf => ?_⟩
  obtain ⟨k1, k2, k3, oe, vs, T, oT, ts, he, hz, hd, hv1, hnT, hTe, hT, hdT, h3⟩ := hh
  -- the ground without the block's names
  have bk : ∀ b o, (PySem.W.hideAll B [C]).get? b = some o → b ≠ C ∧ B.get? b = some o := fun b o e => by
    refine ⟨fun z => ?_, PySem.W.of_hideAll _ e⟩
    rw [z, PySem.W.hideAll_none _ (List.mem_singleton.mpr rfl)] at e
    cases e
  have bn : ∀ b, B.get? b = none → (PySem.W.hideAll B [C]).get? b = none := fun b e => by
    cases q : (PySem.W.hideAll B [C]).get? b with
    | none => rfl
    | some o =>
      rw [(bk b o q).2] at e
      cases e
  have bo : ∀ b o, b ≠ C → B.get? b = some o → (PySem.W.hideAll B [C]).get? b = some o := fun b o ne e => PySem.W.hideAll_get _ e (by simpa using ne)
  have keep' : ∀ b o, b ≠ C → h1.get? b = some o → h'.get? b = some o := fun b o ne e => (sb.2 b ne).trans e
  have aC : a ≠ C := fun z => by rw [z, BC] at k2; cases k2
  have TC : T ≠ C := fun z => by rw [z, BC] at hnT; cases hnT
  generalize PySem.W.hideAll B [C] = B' at bk bn bo
  have held : HandSPX.HeldZ B' (X.env :: X.outer) a (L2N.Zn cls d) X.env.locals h' :=
    ⟨fun b o e => keep' b o (bk b o e).1 (k1 b o (bk b o e).2), bn a k2, funFrames_but keep' bn (fun b hb z => Cfr (by rw [hs]; rw [← z]; exact hb)) k3, oe, vs, T, oT, ts, keep' a oe aC he, hz, hd, hv1, bn T hnT, hTe, keep' T oT TC hT, hdT, h3⟩
  unfold PySem.passOn
  refine wpAny_bind (wpAny_field (s := { s' with heap := h' }) (keep' a oe aC he) hd hv1 ?_)
  rw [if_neg (by simp)]
  refine wpAny_bind ?_
  rw [hcf, hf]
  refine HandSPX.setFlight_onZ held fun h2 held2 up2 => ?_
  refine wpAny_throw (tk _ _ ?_)
  -- it lies in the def's air
  obtain ⟨G, g1, g2⟩ := restrict h2 fun b => (B'.get? b).isSome || decide (b ∈ frs X.stack)
  have st : B'.StaysIn h2 := held2.1
  have gB : ∀ b o, B'.get? b = some o → G.get? b = some o := fun b o e => by
    rw [g1 b (by simp [e])]
    exact st b o e
  have gF : ∀ b, b ∈ frs X.stack → G.get? b = h2.get? b := fun b hb => g1 b (by simp [hb])
  have og : ∀ b o, G.get? b = some o → h2.get? b = some o ∧ ((B'.get? b).isSome = true ∨ b ∈ frs X.stack) := fun b o e => by
    cases q : ((B'.get? b).isSome || decide (b ∈ frs X.stack)) with
    | false => rw [g2 b q] at e; cases e
    | true =>
      rw [g1 b q] at e
      exact ⟨e, by simpa [Bool.or_eq_true] using q⟩
  have hok' : HOk X.prog X.w H' B' := fun b u q => (hok b u q).stay (fun c v hc e => bo c v (fun z => by
    rcases hc with hc | hc
    · rw [← hc, z, HC] at q
      cases q
    · rw [z, HC] at hc
      cases hc) e) (fun _ z => z) fun _ _ z => z
  have slots : ∀ b o, s.heap.get? b = some o → b ∈ frs X.stack → ∃ sl, G.get? b = some { o with slots := sl } := fun b o e hb => by
    obtain ⟨_, o₀, e₀, hnf⟩ := I.stack.mem hb
    rw [e] at e₀
    cases e₀
    obtain ⟨sl, q⟩ := ub.slot b o e hb
    obtain ⟨sl2, q2⟩ := up b _ q hnf
    obtain ⟨sl3, q3⟩ := up2 b _ (keep' b _ (fun z => Cfr (by rw [← z]; exact hb)) q2) hnf
    exact ⟨sl3, by rw [gF b hb]; exact q3⟩
  refine ⟨a, B', { s with heap := G, gens := s'.gens, drawn := s'.drawn, toks := s'.toks }, pins, σ, H', cls, d, rfl, ?_, fun b o e hb => ?_, Heap.UpToSlots.of_keeps fun b o e => (og b o e).1, .inr (.inr (by rw [hs]; exact held2)), na, os, ag, hW _ _ _ hE⟩
  · refine I.call (ch := [C]) ⟨fun b o e n hb hc => gB b o (bo b o (by simpa using hc) (ub.keep b o e n hb)), fun b o e n hb hc => ?_, fun b o e n _ => ub.free b o e n, fun b o e hc => ?_, ub.tups, ub.frzs, ub.tbls⟩ (hok'.kept gB) ag (fun b hb => by
      rw [List.mem_singleton.mp hb]
      exact ⟨c3, c1, c4, c5⟩)
    · exact slots b o e hb
    · by_cases hb : b ∈ frs X.stack
      · obtain ⟨sl, q⟩ := slots b o e hb
        exact ⟨_, q⟩
      · obtain ⟨o', q⟩ := ub.there b o e hb
        exact ⟨o', gB b o' (bo b o' (by simpa using hc) q)⟩
  · obtain ⟨e', h⟩ := og b o e
    rcases h with h | h
    · obtain ⟨o', q⟩ := Option.isSome_iff_exists.mp h
      have z := st b o' q
      rw [e'] at z; cases z
      exact q
    · exact absurd h hb
end
/-- what a comprehension's block is to reach; an exception goes on with the block's own frame -/
def postF (M : Model) (A : Around) (E : Value → Shared → Prop) (use : Option (Value → Sem Unit)) (Q : Value → Shared → Prop) (acc : Value) (C : Addr) (fr : Option Addr) : Result → Shared → Prop
  | .ok f, s' => compPost M A E use Q acc C (.ok f) s'
  | .error x, s' => ∃ m, s'.heap.Ns C m ∧ ∀ h', Heap.SameBut C s'.heap h' → ∀ cenv : Env, cenv.locals = C → cenv.frame = fr →
      wpAny M A (PySem.passOn "comprehension.variables-let-go" x cenv : Sem Value) (fun _ _ => False) E { s' with heap := h' }
theorem comp_own {M : Model} {A : Around} {E : Value → Shared → Prop} {s : Shared} {env : Env} {e : Expr} {scope : Scope} {pos : Pos} {newAcc first : Sem Value} {g : Comprehension} {gs : List Comprehension} {cl : List (Str × Addr)} {use : Option (Value → Sem Unit)}
    {Q : Value → Shared → Prop} (hcl : clausesOf e = g :: gs) (hs : ∀ x, foldedSetIterable g.iter env x = pure x) (hclos : closureFor scope env = pure cl) (hkind : scope.kind = .function) (hnames : ∀ x ∈ scope.names, x.2 = .local → scope.names.lookup x.1 = some .local)
    (h : wpAny M A first (fun x s₁ => wpAny M A (pyIter x) (fun it s₂ => wpAny M A newAcc (fun acc s₃ => wpAny M A (newFunctionEnv scope env.globals cl [] env.qual none .none (some env)) (fun cenv s₄ =>
        codeAny M A (.compStart e 0 it acc { cenv with scope := relabel scope env }) (postF M A E use Q acc cenv.locals cenv.frame) s₄) E s₃) E s₂) E s₁) E s) :
    wpAny M A (comprehension e scope env pos newAcc false first use) Q E s := by
  unfold comprehension
  rw [hclos, hcl]
  refine wpAny_bind (wpAny_mono h (fun x s₁ h₁ => ?_) fun _ _ z => z)
  refine wpAny_bind (wpAny_standAt (wpAny_bind (wpAny_of_eq (hs x) ?_)))
  refine wpAny_bind (wpAny_holding (wpAny_mono h₁ (fun it s₂ h₂ => ?_) fun _ _ z => z))
  refine wpAny_standIf (wpAny_bind (wpAny_mono h₂ (fun acc s₃ h₃ => ?_) fun _ _ z => z))
  refine wpAny_bind (wpAny_pure (wpAny_bind (wpAny_mono h₃ (fun cenv s₄ h₄ => ?_) fun _ _ z => z)))
  dsimp only
  have own : ∀ x ∈ (scope.names.filter fun x => (x.2 == .local || x.2 == .cell) && x.1 != (".0" : Str)).reverse, x.2 = .local → Env.kindOf { cenv with scope := relabel scope env } x.1 = some .local :=
    fun x hx hl => lookup_relabel_local (hnames x (List.mem_filter.mp (List.mem_reverse.mp hx)).1 hl)
  refine wpAny_holding (wpAny_bind (wpAny_attempt (wpAny_holding (wpAny_run (codeAny_mono h₄ fun r s' hr => ?_)))))
  cases r with
  | ok f =>
    cases use with
    | none =>
      obtain ⟨m, hn, hr⟩ := hr
      exact wpAny_bind (wpAny_holding (wpAny_comp_letGo (cenv := { cenv with scope := relabel scope env }) hkind _ s' m own hn fun h' m' _ sb => wpAny_pure (hr h' sb)))
    | some u =>
      refine wpAny_bind (wpAny_rule (wpAny_bind (wpAny_holding (wpAny_mono hr (fun _ s'' hr' => ?_) fun _ _ z => z))))
      obtain ⟨m, hn, hr'⟩ := hr'
      refine wpAny_bind (wpAny_comp_letGo (cenv := { cenv with scope := relabel scope env }) hkind _ s'' m (fun x hx hl => ?_) hn fun h' m' _ sb => wpAny_pure (hr' h' sb))
      rcases List.mem_append.mp hx with z | z
      · exact own x (List.mem_of_mem_drop z) hl
      · exact own x (List.mem_of_mem_take z) hl
  | error x =>
    obtain ⟨m, hn, hr⟩ := hr
    exact wpAny_bind (wpAny_holding (wpAny_comp_letGo (cenv := { cenv with scope := relabel scope env }) hkind _ s' m own hn fun h' m' _ sb => wpAny_mono (hr h' sb _ rfl rfl) (fun _ _ z => z.elim) fun _ _ z => z))
theorem inv_xe {X : Cx} {pins : List (Addr × Obj)} {σ : L2.St} {H : Hp} {s : Shared} {xe xe' : Value → Shared → Prop} (I : Inv { X with xe := xe } pins σ H s) : Inv { X with xe := xe' } pins σ H s :=
  ⟨⟨I.ok.mod, I.ok.kind, I.ok.glob, I.ok.blt, I.ok.above, I.ok.inj, I.ok.has, I.ok.cab, I.ok.hd, I.ok.frames, I.ok.stk, I.ok.exf, I.ok.bs, I.ok.bsz, I.ok.noex, I.ok.exfs, I.ok.funs, I.ok.frf⟩, I.os, I.bare, I.base, I.loc, I.cell, I.free, I.freeC, I.pin, I.hok, I.len⟩
abbrev blkX (X : Cx) (s : Shared) (H : Hp) (scope : Scope) (cenv : Env) (fp : List Addr) (xe : Value → Shared → Prop) : Cx := { X.blk s H scope cenv fp with xe := xe }
/-- an exception in a block's air -/
def XB (X : Cx) (pins : List (Addr × Obj)) (σ : L2.St) (E : XK) (C : Addr) (u : Value) (s' : Shared) : Prop :=
  ∃ (H9 : Hp) (s9 : Shared) (m : Str → Option Value), Inv X pins σ H9 s9 ∧ FpOk X pins H9 C ∧ s9.heap.Ns C m ∧ L2N.CX X.prog X.w X.stack H9 s9 E u s'
section
variable {X : Cx}
theorem lc_coreX {pins : List (Addr × Obj)} {s : Shared} {σ : L2.St} {H : Hp} {Q : VK} {elt tg iter : Expr} {ifs : List Expr} {scope : Scope} {own : List (Str × Nat)} {pos pos' : Pos} {wi : TI} {g : TG} {tt : TT} {te : XK → TE} {use : Option (Value → Sem Unit)} {Qf : Value → Shared → Prop} {W : WX}
    (hc : X.calm = true) (hN : X.N.Nodup) (I : Inv X pins σ H s) (hst : X.stack = X.env :: X.outer) (hfr : X.env.frame = some X.env.locals) (tk : L2N.Takes X W) (hi : PI X tg iter wi) (ok : BlkOk X.N X.env.scope scope own)
    (hg : ∀ (s : Shared) (H : Hp) (C : Addr) (cl : List (Str × Addr)) (fp : List Addr) (xe : Value → Shared → Prop), PG (blkX X s H scope (compEnvC scope cl C X.env) fp xe) tg g)
    (ht : ∀ (s : Shared) (H : Hp) (C : Addr) (cl : List (Str × Addr)) (fp : List Addr) (xe : Value → Shared → Prop), PTs (blkX X s H scope (compEnvC scope cl C X.env) fp xe) ifs tt)
    (he : ∀ (s : Shared) (H : Hp) (C : Addr) (cl : List (Str × Addr)) (fp : List Addr) (xe : Value → Shared → Prop) (E : XK), (∀ σ', PassesAt (L2N.CX X.prog X.w) (blkX X s H scope (compEnvC scope cl C X.env) fp xe) σ' E) → PE (blkX X s H scope (compEnvC scope cl C X.env) fp xe) elt (te E))
    (hs : ∀ x, foldedSetIterable iter X.env x = pure x) (h : tLc wi g tt (te fun cls d H' => W cls d σ H') (own.map (·.2)) σ H Q)
    (hRR : ∀ D C s' m H', Inv X pins σ H' s' → Q (.ref D) H' → s'.heap.Ns C m → FpOk X pins H' C → compPost (model X.prog X.w) X.A X.xe use Qf (.ref D) C (.ok .next) s') :
    wpAny (model X.prog X.w) X.A (comprehension (.ListComp elt [⟨tg, iter, ifs, 0⟩] scope pos) scope X.env pos' (newList []) false (eval iter X.env) use) Qf X.xe s := by
  have hfree : ∀ y ∈ scope.names, y.2 = .free → ∃ c, X.env.cells.lookup y.1 = some c := fun y hy e => by
    rcases ok.free y hy e with k | k
    · exact I.ok.has _ (.inl k)
    · exact I.ok.has _ (.inr k)
  refine comp_own (use := use) rfl hs (closure_ok hfree) ok.kind (fun y hy e => by rw [ok.uniq y hy, e]) (thn (hi.run pins s σ H _ I h) fun xv s1 hx => thn hx fun itv s2 h2 => ?_)
  obtain ⟨it, fp, tn, J, H2, e, I2, T, st2, f2, q⟩ := h2
  subst e
  refine wpAny_newObj_type (newEnv_comp ?_) (by show 0 ≤ sizeLine; decide)
  generalize hD : s2.heap.objs.size = D
  have hDn : H2 D = none := I2.hok.fresh (Nat.le_of_eq hD)
  obtain ⟨W0, ⟨m0, w0⟩, turn⟩ := q D hDn
  generalize hs3 : ({ s2 with heap := s2.heap.push { cls := .type "list", data := .seq ([] : List Value).toArray } } : Shared) = s3
  have I3 : Inv X pins σ (upd H2 D (.lst [])) s3 := by
    rw [← hs3]
    refine I2.laid (t' := s2.toks) (fun b o e => Heap.get?_push_of_some _ e) (Nat.le_of_eq hD) ⟨Nat.zero_le _, [], 0, .nil, ?_⟩
    rw [← hD]
    exact Heap.get?_push_size _ rfl
  have h3 : s3.heap = s2.heap.push { cls := .type "list", data := .seq ([] : List Value).toArray } := by rw [← hs3]
  have f3 : ∀ b ∈ fp, FpOk X pins (upd H2 D (.lst [])) b ∧ b < s3.heap.objs.size := fun b hb => by
    obtain ⟨o, e, _⟩ := T.obj _ _ st2 b hb
    have hlt := Heap.lt_size e
    refine ⟨⟨?_, (f2 b hb).2⟩, by rw [h3, Heap.size_push]; exact Nat.lt_succ_of_lt hlt⟩
    rw [upd_ne (by rw [← hD]; exact Nat.ne_of_lt hlt)]
    exact (f2 b hb).1
  have st3 : tn 0 s3.heap := T.keep _ _ _ st2 fun b _ o e => by rw [h3]; exact Heap.get?_push_of_some _ e
  have I4 := block_start I3 ok hN f3
  show codeAny _ _ (.compStart (.ListComp elt [⟨tg, iter, ifs, 0⟩] scope pos) 0 (.ref it) (.ref D) (compEnvC scope (cellsFrom (s3.heap.objs.size + 1) scope.names (cloFrom X.env.cells scope.names [])) s3.heap.objs.size X.env))
    (postF (model X.prog X.w) X.A X.xe use Qf (.ref D) s3.heap.objs.size X.env.frame) { s3 with heap := pushCells (s3.heap.push { cls := .type "dict", data := .dict #[] }) scope.names }
  generalize hs4 : ({ s3 with heap := pushCells (s3.heap.push { cls := .type "dict", data := .dict #[] }) scope.names } : Shared) = s4 at I4 ⊢
  have st4 : tn 0 s4.heap := T.keep _ _ _ st3 fun b _ o e => by rw [← hs4]; exact pushCells_keeps _ _ _ _ (Heap.get?_push_of_some _ e)
  -- the block's context: an exception in its air is one in the def's
  have hE : (fun cls d H' => W cls d σ H' : XK) = fun cls d H' => W cls d σ H' := rfl
  generalize hEE : (fun cls d H' => W cls d σ H' : XK) = E at turn hE
  have hWE : ∀ cls d H', E cls d H' → W cls d σ H' := fun cls d H' z => by rw [← hEE] at z; exact z
  clear hE
  obtain ⟨XBk, hXB⟩ : ∃ z, XB X pins σ E s3.heap.objs.size = z := ⟨_, rfl⟩
  have pg := hg s3 (upd H2 D (.lst [])) s3.heap.objs.size (cellsFrom (s3.heap.objs.size + 1) scope.names (cloFrom X.env.cells scope.names [])) fp XBk
  have pt := ht s3 (upd H2 D (.lst [])) s3.heap.objs.size (cellsFrom (s3.heap.objs.size + 1) scope.names (cloFrom X.env.cells scope.names [])) fp XBk
  have pe := he s3 (upd H2 D (.lst [])) s3.heap.objs.size (cellsFrom (s3.heap.objs.size + 1) scope.names (cloFrom X.env.cells scope.names [])) fp XBk E
  have cF : (compEnvC scope (cellsFrom (s3.heap.objs.size + 1) scope.names (cloFrom X.env.cells scope.names [])) s3.heap.objs.size X.env).frame = X.env.frame := rfl
  have cN : ∀ u, noteFrame u (compEnvC scope (cellsFrom (s3.heap.objs.size + 1) scope.names (cloFrom X.env.cells scope.names [])) s3.heap.objs.size X.env) = noteFrame u X.env := fun _ => rfl
  have cL : (compEnvC scope (cellsFrom (s3.heap.objs.size + 1) scope.names (cloFrom X.env.cells scope.names [])) s3.heap.objs.size X.env).locals = s3.heap.objs.size := rfl
  have nfp : ∀ b ∈ fp, (upd H2 D (.lst [])) b = none := fun b hb => (f3 b hb).1.1
  generalize compEnvC scope (cellsFrom (s3.heap.objs.size + 1) scope.names (cloFrom X.env.cells scope.names [])) s3.heap.objs.size X.env = ce at I4 pg pt pe cF cN cL ⊢
  generalize upd H2 D (.lst []) = H3 at I3 I4 pg pt pe w0 nfp f3
  have I4 : Inv (blkX X s3 H3 scope ce fp XBk) [] (wipe σ (own.map (·.2))) H3 s4 := inv_xe I4
  -- back in the def's context
  have back : ∀ {pins' : List (Addr × Obj)} {σ' : L2.St} {H' : Hp} {s' : Shared}, Inv (blkX X s3 H3 scope ce fp XBk) pins' σ' H' s' → Inv X pins σ H' s' ∧ FpOk X pins H' s3.heap.objs.size ∧ ∃ m, s'.heap.Ns s3.heap.objs.size m := fun {pins' σ' H' s'} I' => by
    have nC : H' s3.heap.objs.size = none := by
      have z : H' ce.locals = none := I'.free
      rw [cL] at z
      exact z
    obtain ⟨m, hn, _⟩ := I'.loc
    have hn : s'.heap.Ns ce.locals m := hn
    rw [cL] at hn
    exact ⟨I3.call' (ch := fp) I'.os I'.base I'.hok I'.bare fun b hb => ⟨(f3 b hb).1.2.2.2.1, (f3 b hb).1.2.1, (f3 b hb).1.2.2.2.2.1, (f3 b hb).1.2.2.2.2.2⟩, I3.fpOk (Nat.le_refl _) nC, m, hn⟩
  have pe := pe fun σ' pins' H' s' e s'' I' c => by
    show XBk e s''
    rw [← hXB]
    obtain ⟨b1, b2, m, b3⟩ := back I'
    exact ⟨H', s', m, b1, b2, b3, c⟩
  -- an exception leaves the block
  have exc : ∀ e s', XBk e s' → notedBy (model X.prog X.w) X.A ce (fun e s' => postF (model X.prog X.w) X.A X.xe use Qf (.ref D) s3.heap.objs.size X.env.frame (.error e) s') e s' := fun e s' z => by
    rw [← hXB] at z
    obtain ⟨H9, s9, m, b1, b2, b3, c⟩ := z
    show wpAny _ _ (noteFrame e ce) _ _ _
    rw [cN]
    exact xe_block b1 hst hfr tk hWE b2 b3 c
  have stat : ∀ {σ' : L2.St} {H' : Hp} {s' : Shared}, Inv (blkX X s3 H3 scope ce fp XBk) [] σ' H' s' → (∀ b ∈ fp, H' b = none) → ∀ b ∈ fp, FpOk (blkX X s3 H3 scope ce fp XBk) [] H' b := fun {σ' H' s'} I' hn b hb =>
    ⟨hn b hb, (I'.ok.exf b hb).1, I'.ok.exfs b hb, .inl hb, fun x c e => (I'.ok.exf b hb).2 x c e, fun p hp => absurd (show p ∈ ([] : List (Addr × Obj)) ++ [] from hp) (by simp)⟩
  have loop : codeAny (model X.prog X.w) X.A (.compLoop (.ListComp elt [⟨tg, iter, ifs, 0⟩] scope pos) 0 (.ref it) (.ref D) ce) (postF (model X.prog X.w) X.A X.xe use Qf (.ref D) s3.heap.objs.size X.env.frame) s4 := by
    refine compLoop_any (fun n s' => ∃ i H', Inv (blkX X s3 H3 scope ce fp XBk) [] (wipe σ (own.map (·.2))) H' s' ∧ tn i s'.heap ∧ (∀ b ∈ fp, H' b = none) ∧ W0 i n H') ?_ m0 ⟨0, H3, I4, st4, nfp, w0⟩
    rintro n s5 ⟨i, H5, I5, st5, n5, w5⟩
    rcases turn i n H5 w5 with ⟨stop, qq⟩ | ⟨go, Nx, hNx, step⟩
    · refine thnF (T.done (blkX X s3 H3 scope ce fp XBk) rfl rfl rfl hc i [] s5 _ H5 (fun _ _ => False) I5 (stat I5 n5) st5 stop) fun r s6 ⟨hr, I6⟩ => ?_
      subst hr
      obtain ⟨I7, fC, m, hn⟩ := back I6
      exact hRR D s3.heap.objs.size s6 m H5 I7 qq hn fC
    · refine thnF (T.item (blkX X s3 H3 scope ce fp XBk) rfl rfl rfl hc i [] s5 _ H5 (fun _ _ => False) I5 (stat I5 n5) st5 go) fun r s6 ⟨u, hr, h6⟩ => ?_
      subst hr
      refine thnF h6 fun _ s7 ⟨x, H7, I7, r7, y7, st7, n7⟩ => ?_
      have I7' := I7.pinned (stat I7 n7) (T.obj _ _ st7)
      refine wpAny_mono (pg.run _ s7 _ H7 x u _ I7' r7 (step x H7 y7)) (fun _ s8 ⟨σ8, H8, I8, hw8, q8⟩ => ?_) exc
      refine wpAny_mono (pt.run _ s8 σ8 H8 _ I8 q8) (fun b s9 ⟨H9, I9, q9⟩ => ?_) exc
      have fin : ∀ {s' : Shared} {H' : Hp}, Inv (blkX X s3 H3 scope ce fp XBk) ([] ++ pinsAt fp s7.heap) σ8 H' s' → Nx H' → ∃ m, m < n ∧ ∃ i H', Inv (blkX X s3 H3 scope ce fp XBk) [] (wipe σ (own.map (·.2))) H' s' ∧ tn i s'.heap ∧ (∀ b ∈ fp, H' b = none) ∧ W0 i m H' := fun {s' H'} I' nx => by
        obtain ⟨m', hm, w'⟩ := hNx H' nx
        have pin' : ∀ b ∈ fp, ∀ o, s7.heap.get? b = some o → s'.heap.get? b = some o ∧ H' b = none := fun b hb o e =>
          let z := I'.pin (b, o) (List.mem_append_right _ (List.mem_append_right _ (mem_pinsAt hb e)))
          ⟨z.1, z.2.1⟩
        have hl : (wipe σ (own.map (·.2))).length = σ8.length := by rw [← hw8, wipe_length]
        refine ⟨m', hm, i + 1, H', (I'.unpinned (pins := [])).weak hl (fun j v e => ?_), T.keep _ _ _ st7 fun b hb o e => (pin' b hb o e).1, fun b hb => ?_, w'⟩
        · rw [← hw8] at e
          exact (wipe_some e).1
        · obtain ⟨o, e, _⟩ := T.obj _ _ st7 b hb
          exact (pin' b hb o e).2
      cases b with
      | false =>
        simp only [Bool.false_eq_true, if_false] at q9 ⊢
        exact fin I9 q9
      | true =>
        simp only [if_true] at q9 ⊢
        refine wpAny_mono (pe.run _ s9 σ8 H9 _ I9 q9) (fun z s10 ⟨yv, H10, I10, r10, acc, hD10, hz10, nx⟩ => ?_) exc
        exact app_ok (X := blkX X s3 H3 scope ce fp XBk) I10 hD10 hz10 r10 fun s11 I11 => fin I11 nx
  exact codeAny_compStart_list loop (T.self X.A 0 _ _ _ st4 loop)
/-- name = [..] on one line, the name a local; the element may raise -/
def tSetLcX (W : WX) (wi : TI) (g : TG) (tt : TT) (te : XK → TE) (vs : List Nat) (i : Nat) : TS := fun D σ H => tLc wi g tt (te fun cls d H' => W cls d σ H') vs σ H fun x H1 => gName i x σ H1 D.nx
theorem ps_setLcX {i : Nat} {y : Str} {py : Pos} {elt tg iter : Expr} {ifs : List Expr} {scope : Scope} {own : List (Str × Nat)} {pos spos : Pos} {wi : TI} {g : TG} {tt : TT} {te : XK → TE} {W : WX} (hc : X.calm = true) (hst : X.stack = X.env :: X.outer) (hfr : X.env.frame = some X.env.locals) (tk : L2N.Takes X W) (hN : X.N.Nodup) (hy : X.N[i]? = some y) (hyl : X.env.scope.names.lookup y = some .local)
    (hsw : swapsWith (.ListComp elt [⟨tg, iter, ifs, 0⟩] scope pos) (some (.Name y py)) spos.line X.env = pure true) (hi : PI X tg iter wi) (ok : BlkOk X.N X.env.scope scope own)
    (hg : ∀ (s : Shared) (H : Hp) (C : Addr) (cl : List (Str × Addr)) (fp : List Addr) (xe : Value → Shared → Prop), PG (blkX X s H scope (compEnvC scope cl C X.env) fp xe) tg g)
    (ht : ∀ (s : Shared) (H : Hp) (C : Addr) (cl : List (Str × Addr)) (fp : List Addr) (xe : Value → Shared → Prop), PTs (blkX X s H scope (compEnvC scope cl C X.env) fp xe) ifs tt)
    (he : ∀ (s : Shared) (H : Hp) (C : Addr) (cl : List (Str × Addr)) (fp : List Addr) (xe : Value → Shared → Prop) (E : XK), (∀ σ', PassesAt (L2N.CX X.prog X.w) (blkX X s H scope (compEnvC scope cl C X.env) fp xe) σ' E) → PE (blkX X s H scope (compEnvC scope cl C X.env) fp xe) elt (te E))
    (hs : ∀ x, foldedSetIterable iter X.env x = pure x := by intro _; rfl) :
    PS X (.Assign [.Name y py] (.ListComp elt [⟨tg, iter, ifs, 0⟩] scope pos) spos) (tSetLcX W wi g tt te (own.map (·.2)) i) := by
  refine ⟨fun pins s σ H D I h => ?_⟩
  rw [exec_Assign_Name_used _ _ _ _ hsw]
  refine wpAny_bind (wpAny_standAt (wpAny_bind ?_))
  show wpAny _ X.A (do let _ ← comprehension (.ListComp elt [⟨tg, iter, ifs, 0⟩] scope pos) scope X.env (firstIterPos [⟨tg, iter, ifs, 0⟩] pos) (newList []) false (eval iter X.env) (some (assign (.Name y py) X.env))) _ _ s
  have h : tLc wi g tt (te fun cls d H' => W cls d σ H') (own.map (·.2)) σ H (fun x H1 => gName i x σ H1 D.nx) := h
  refine wpAny_bind (thn (lc_coreX (Qf := fun _ s' => SP X pins D .next s') hc hN I hst hfr tk hi ok hg ht he hs h fun L C s' m H' I' q hn f => ?_) fun _ s' hq => wpAny_pure (wpAny_pure hq))
  show wpAny _ _ (assign (.Name y py) X.env (.ref L)) _ _ _
  refine wpAny_assign_Name (store_ok2 (v := V.ref L) I' hN hy (.inl hyl) rfl (fun s2 I2 ⟨a, sb, ha⟩ => ?_) (.inr hyl))
  obtain ⟨f0, f1, f2, f3, f4, f5⟩ := f
  have haC : C ≠ a := by
    rcases ha with z | z
    · rw [z]
      exact f1
    · exact fun e => f4 y a z e.symm
  refine ⟨m, hn.sameBut sb haC, fun h3 sb3 => ?_⟩
  exact ⟨_, H', I2.turned (t' := s2.toks) (fun b o hb e => (sb3.2 b hb).trans e) f0 f1 f3 f4 f5, q⟩
end
end DR

set_option Elab.async false
set_option linter.all false
set_option maxRecDepth 100000
set_option maxHeartbeats 4000000
namespace DR
open PySem PySem.Spec PyProof.Rows L2
section
variable {P : Program} {w : World} {K : PySem.W.Frag} {mg : Str → Option Value} {base : Heap}
/-! ### a draw -/
def spOff : Sp := fun vs H Q _ => ∃ (d : Addr) (m : Int) (o : HO), vs = [.ref d, .int m] ∧ H d = some o ∧ Dice o ∧ 0 < m ∧ m < 1073741824 ∧ ∀ r o', 0 ≤ r → r < m → Dice o' → Q (.int r) (upd H d o')
theorem scOff : FnScope ["_law_d", "_law_most", "_law_found"] ["_law_d", "_law_most"] (defScope s__law_off) := ⟨rfl, rfl, rfl, by decide +kernel, rfl, by decide +kernel, by decide +kernel⟩
theorem dice_cons (x y : Int) (r : List Int) : Dice (.lst ((x :: y :: r).map V.int)) := ⟨_, rfl, by simp⟩
theorem has_off (D : IsDef K mg "_law_off" s__law_off) (B : Blt mg) : Has P w K mg base 1 "_law_off" ["_law_d", "_law_most"] spOff := by
  refine has_of D scOff (fun _ _ _ _ _ _ us hl => match us, hl with | [_, _], _ => rfl) (fun vs H Q E h => ?_) (fun f cdv A outer s H vs Q E hr h => ?_)
  · obtain ⟨d, m, o, rfl, _⟩ := h
    rfl
  · obtain ⟨d, m, o, rfl, hd, ⟨xs, rfl, hx⟩, m0, m1, q⟩ := h
    obtain ⟨x, y, r, rfl⟩ : ∃ x y r, xs = x :: y :: r := match xs, hx with
      | x :: y :: r, _ => ⟨x, y, r, rfl⟩
    refine ⟨_, C8.pss_cut (ps_if (PW.pt (pw_and (pt_cmpR op_eq (pe_ix ix_list (pv 0) pe_int (fun _ _ => rfl)) pe_int (nomark _)) (pw_and1 (pt_cmpR op_gt (pe_callB call_len_seq (by rfl) B.len PySem.boot_len (pa_cons (pv 0) pa_nil)) pe_int (nomark _)))))
        (pss_one (ps_asg (pe_bm PySem.F.plainAttrs_list PySem.F.slot_list_pop PySem.F.type_list_pop mt_popAt (pv 0) (pa_cons pe_int pa_nil)) (pg_sub (pv 0) pe_int set_list))) pss_nil)
      (pss_cons (ps_if (pt_cmpR op_gt (pe_ix ix_list (pv 0) pe_int (fun _ _ => rfl)) pe_int (nomark _))
        (pss_cons (ps_set (i := 2) scOff.nd rfl (.inl rfl) (pe_op op_modN (pe_ix ix_list (pv 0) pe_int (fun _ _ => rfl)) (pv 1)))
        (pss_cons (ps_asg (pe_op op_fdivN (pe_ix ix_list (pv 0) pe_int (fun _ _ => rfl)) (pv 1)) (pg_sub (pv 0) pe_int set_list))
        (pss_one (ps_ret (pv 2))))) pss_nil)
      (pss_cons (ps_asg (pe_op op_modN (pe_op op_add (pe_op op_mul (pe_ix ix_list (pv 0) pe_int (fun _ _ => rfl)) pe_int) pe_int) pe_int) (pg_sub (pv 0) pe_int set_list))
      (pss_one (ps_ret (pe_op op_modN (pe_op op_fdivN (pe_ix ix_list (pv 0) pe_int (fun _ _ => rfl)) pe_int) (pv 1)))))), ?_⟩
    refine ⟨fun σ H' => ∃ (x y : Int) (r : List Int) (o : HO), σ = [some (.ref d), some (.int m), none] ∧ H' = upd H d o ∧ o = .lst ((x :: y :: r).map V.int), ?_, ?_⟩
    · refine ⟨_, rfl, _, _, _, _, rfl, rfl, SqL.of hd, atI_nat (j := 1) rfl, rfl, _, rfl, ite2 (fun ey => ?_) (fun _ => ⟨x, y, r, _, rfl, (upd_self hd).symm, rfl⟩)⟩
      have ey : y = 0 := V.int.inj (of_decide_eq_true ey)
      refine ⟨_, rfl, _, _, rfl, .inl (SqL.of hd), _, _, rfl, rfl, _, rfl, ite2 (fun el => ?_) (fun _ => ⟨x, y, r, _, rfl, (upd_self hd).symm, rfl⟩)⟩
      obtain ⟨z, r', rfl⟩ : ∃ z r', r = z :: r' := match r, el with
        | z :: r', _ => ⟨z, r', rfl⟩
        | [], el => by simp at el
      refine ⟨_, rfl, .inl ⟨rfl, _, SqL.of hd⟩, d, _, 2, 2, .int z, rfl, rfl, hd, by decide, by decide, by simp [seqIndex?]; omega, rfl, _, rfl, d, _, 1, 1, rfl, rfl, upd_same, by simp [ixN]; omega, ?_⟩
      exact ⟨x, z, r', _, rfl, upd_upd, rfl⟩
    · rintro σ H' ⟨x, y, r, o, rfl, rfl, rfl⟩
      have hd : upd H d (.lst ((x :: y :: r).map V.int)) d = some (.lst ((x :: y :: r).map V.int)) := upd_same
      refine ⟨_, rfl, _, _, _, _, rfl, rfl, SqL.of hd, atI_nat (j := 1) rfl, _, _, rfl, rfl, _, rfl, ite2 (fun ey => ?_) (fun _ => ?_)⟩
      · refine ⟨_, rfl, _, _, _, _, rfl, rfl, SqL.of hd, atI_nat (j := 1) rfl, _, rfl, _, _, rfl, rfl, (show m ≠ 0 by omega), ?_⟩
        refine ⟨_, rfl, _, _, _, _, rfl, rfl, SqL.of hd, atI_nat (j := 1) rfl, _, rfl, _, _, rfl, rfl, ⟨by omega, by omega⟩, _, rfl, d, _, 1, 1, rfl, rfl, hd, by simp [ixN]; omega, ?_⟩
        refine ⟨_, rfl, ?_⟩
        rw [upd_upd]
        exact q _ _ (fmod_in m0).1 (fmod_in m0).2 (dice_cons x (y.fdiv m) r)
      · refine ⟨_, rfl, _, _, _, _, rfl, rfl, SqL.of hd, atI_nat (j := 0) rfl, _, _, rfl, rfl, .inr ⟨by decide, by decide⟩, _, _, rfl, rfl, _, _, rfl, rfl, (by show (2147483647 : Int) ≠ 0; decide), _, rfl, d, _, 0, 0, rfl, rfl, hd, by simp [ixN]; omega, ?_⟩
        refine ⟨_, rfl, _, _, _, _, rfl, rfl, SqL.of upd_same, atI_nat (j := 0) rfl, _, _, rfl, rfl, ⟨by decide, by decide⟩, _, rfl, _, _, rfl, rfl, (show m ≠ 0 by omega), ?_⟩
        rw [upd_upd]
        exact q _ _ (fmod_in m0).1 (fmod_in m0).2 (dice_cons _ y r)
end
end DR

set_option Elab.async false
set_option linter.all false
set_option maxRecDepth 100000
set_option maxHeartbeats 4000000
namespace DR
open PySem PySem.Spec PyProof.Rows L2
section
variable {X : Cx}
/-- xs != [], xs == [] -/
def rNeNil (K : PySem.W.Frag) : R2 := fun x y H Q => ∃ p q xs, x = .ref p ∧ y = .ref q ∧ SqL K H p xs ∧ H q = some (.lst []) ∧ Q (.bl (!xs.isEmpty)) H
theorem op_ne_nil (hu : X.A.units < cLine) : OpR X (compareOp .NotEq) (rNeNil X.K) := by
  intro pins s σ H x y v u Q I rx ry h
  obtain ⟨p, q, xs, rfl, rfl, hp, hq, k⟩ := h
  cases rx
  cases ry
  obtain ⟨its, r, pl, hz⟩ := I.list hp
  obtain ⟨its2, r2, pl2, hz2⟩ := I.list (SqL.of (K := X.K) hq)
  cases r2
  have hl := r.length
  cases xs with
  | nil =>
    cases r
    exact (SeqAt.RcNeAt.lists (e := fun _ => true) pl.isList pl2.isList rfl hu (fun j h1 _ => absurd h1 (by simp))) X.prog X.w _ _ ⟨.bl _, H, I, rfl, k⟩
  | cons z zs =>
    have hne : (its.toArray.size != ([] : List Value).toArray.size) = true := by
      rw [List.length_cons] at hl
      simp
      intro e
      rw [e] at hl
      simp at hl
    exact (SeqAt.RcNeAt.lists_lengths pl.isList pl2.isList hne hu) X.prog X.w _ _ ⟨.bl _, H, I, rfl, k⟩
end
section
variable {P : Program} {w : World} {K : PySem.W.Frag} {mg : Str → Option Value} {base : Heap}
/-! ### a list in a drawn order -/
def spMixed (K : PySem.W.Frag) : Sp := fun vs H Q _ => ∃ (d l : Addr) (xs : List V), vs = [.ref d, .ref l] ∧ DiceAt H d ∧ SqL K H l xs ∧ xs.length ≤ 1000 ∧
  ∀ H' p ys, ys.Perm xs → Kp d H H' → DiceAt H' d → H p = none → H' p = some (.lst ys) → Q (.ref p) H'
theorem scMixed : FnScope ["_law_d", "_law_row", "_law_left", "_law_found"] ["_law_d", "_law_row"] (defScope s__law_mixed) := ⟨rfl, rfl, rfl, by decide +kernel, rfl, by decide +kernel, by decide +kernel⟩
theorem seqIx {i : Int} {n : Nat} (h0 : 0 ≤ i) (h1 : i < n) : seqIndex? i n = some i.toNat := by
  unfold seqIndex?
  simp [show ¬ i < 0 by omega, h0, h1]
theorem perm_erase {xs : List V} {k : Nat} {y : V} (h : xs[k]? = some y) : (y :: xs.eraseIdx k).Perm xs := by
  induction xs generalizing k with
  | nil => simp at h
  | cons x r ih =>
    cases k with
    | zero =>
      simp at h
      subst h
      simp
    | succ k =>
      simp at h
      simp only [List.eraseIdx_cons_succ]
      exact (List.Perm.swap x y _).trans ((ih h).cons x)
theorem has_mixed (D : IsDef K mg "_law_mixed" s__law_mixed) (B : Blt mg) (O : Has P w K mg base 1 "_law_off" ["_law_d", "_law_most"] spOff) : Has P w K mg base 2 "_law_mixed" ["_law_d", "_law_row"] (spMixed K) := by
  refine has_of D scMixed (fun _ _ _ _ _ _ us hl => match us, hl with | [_, _], _ => rfl) (fun vs H Q E h => ?_) (fun f cdv A outer s H vs Q E hr h => ?_)
  · obtain ⟨d, l, xs, rfl, _⟩ := h
    rfl
  · obtain ⟨d, l, xs, rfl, hd, hl, hx, q⟩ := h
    refine ⟨_, pss_cons (ps_set (i := 2) scMixed.nd rfl (.inl rfl) (pe_callTy call_list_of (by rfl) B.list (by decide +kernel) (pa_cons (pv 1) pa_nil)))
      (pss_cons (ps_set (i := 3) scMixed.nd rfl (.inl rfl) (pe_lst pa_nil))
      (pss_cons (ps_while PassesOwn.never (pt_cmpR (op_ne_nil hr.units0) (pv 2) (pe_lst pa_nil) (nomark _))
        (pss_one (ps_expr (pe_bm PySem.F.plainAttrs_list PySem.F.slot_list_append PySem.F.type_list_append mt_append (pv 3) (pa_cons
          (pe_bm PySem.F.plainAttrs_list PySem.F.slot_list_pop PySem.F.type_list_pop mt_popAt (pv 2) (pa_cons
            (pe_has O hr (by decide) (by rfl) (pa_cons (pv 0) (pa_cons (pe_callB call_len_seq (by rfl) B.len PySem.boot_len (pa_cons (pv 2) pa_nil)) pa_nil))) pa_nil)) pa_nil)))))
      (pss_one (ps_ret (pv 3))))), ?_⟩
    refine ⟨_, rfl, l, xs, rfl, .inl hl, fun p np => ?_⟩
    refine ⟨by show 0 ≤ sizeLine; decide, fun g ng => ?_⟩
    have gp : g ≠ p := (none_upd ng).1
    have ng0 : H g = none := (none_upd ng).2
    obtain ⟨o0, hd0, do0⟩ := hd
    have dp : d ≠ p := ne_of_none hd0 np
    have dg : d ≠ g := ne_of_none hd0 ng0
    refine ⟨fun m σ H2 => ∃ left ys : List V, m = left.length ∧ σ = [some (.ref d), some (.ref l), some (.ref p), some (.ref g)] ∧ Kp d H H2 ∧ DiceAt H2 d ∧ H2 p = some (.lst left) ∧ H2 g = some (.lst ys) ∧ (ys ++ left).Perm xs,
      ⟨xs.length, xs, [], rfl, rfl, fun b o _ e => same_new ng b o (same_new np b o e), ⟨o0, ?_, do0⟩, ?_, upd_same, ?_⟩, ?_⟩
    · rw [upd_ne dg, upd_ne dp]
      exact hd0
    · rw [upd_ne gp.symm, upd_same]
    · simp
    · rintro m σ H2 ⟨left, ys, rfl, rfl, kp, ⟨o, ho, doo⟩, eL, eG, pm⟩
      refine ⟨_, rfl, by show 0 ≤ sizeLine; decide, fun z nz => ?_⟩
      have dz : d ≠ z := ne_of_none ho nz
      have pz : p ≠ z := ne_of_none eL nz
      have gz : g ≠ z := ne_of_none eG nz
      refine ⟨p, z, left, rfl, rfl, SqL.of ((upd_ne pz).trans eL), upd_same, _, rfl, ?_⟩
      have hlen := pm.length_eq
      rw [List.length_append] at hlen
      cases left with
      | nil =>
        refine iteF ?_
        refine ⟨_, rfl, q _ g ys (by simpa using pm) (kp.trans (Same.kp (same_new nz) d)) ⟨o, (upd_ne dz).trans ho, doo⟩ ng0 ((upd_ne gz).trans eG)⟩
      | cons x r =>
        refine iteT ⟨_, fun σ' H' h => h, ?_⟩
        refine ⟨_, rfl, .inl ⟨rfl, _, SqL.of ((upd_ne gz).trans eG)⟩, _, rfl, .inl ⟨rfl, _, SqL.of ((upd_ne pz).trans eL)⟩, _, rfl, _, rfl, _, _, rfl, .inl (SqL.of ((upd_ne pz).trans eL)), ?_⟩
        refine ⟨d, _, o, rfl, (upd_ne dz).trans ho, doo, ?_, ?_, fun i o' i0 i1 do' => ?_⟩
        · simp
        · rw [List.length_cons] at hlen ⊢
          omega
        have hi : i.toNat < (x :: r).length := by omega
        have ep : (upd (upd H2 z (.lst [])) d o') p = some (.lst (x :: r)) := by
          rw [upd_ne dp.symm, upd_ne pz]
          exact eL
        have eg : (upd (upd H2 z (.lst [])) d o') g = some (.lst ys) := by
          rw [upd_ne dg.symm, upd_ne gz]
          exact eG
        refine ⟨p, x :: r, i, i.toNat, (x :: r)[i.toNat], rfl, rfl, ep, by omega, by rw [List.length_cons] at hlen i1; omega, seqIx i0 i1, List.getElem?_eq_getElem hi, ?_⟩
        refine ⟨g, ys, (x :: r)[i.toNat], rfl, rfl, ?_, ?_, ?_⟩
        · rw [upd_ne gp]
          exact eg
        · exact small1000 (by omega)
        have er : ((x :: r).eraseIdx i.toNat).length + 1 = (x :: r).length := by
          rw [List.length_eraseIdx_of_lt hi, List.length_cons]
          simp
        refine ⟨((x :: r).eraseIdx i.toNat).length, by omega, (x :: r).eraseIdx i.toNat, ys ++ [(x :: r)[i.toNat]], rfl, rfl, fun b u nb e => ?_, ⟨o', ?_, do'⟩, ?_, upd_same, ?_⟩
        · have bp : b ≠ p := ne_of_none e np
          have bg : b ≠ g := ne_of_none e ng0
          rw [upd_ne bg, upd_ne bp, upd_ne nb]
          exact same_new nz b u (kp b u nb e)
        · rw [upd_ne dg, upd_ne dp, upd_same]
        · rw [upd_ne gp.symm, upd_same]
        · rw [List.append_assoc]
          exact ((perm_erase (List.getElem?_eq_getElem hi)).append_left ys).trans pm
end
end DR

set_option Elab.async false
set_option linter.all false
set_option maxRecDepth 100000
set_option maxHeartbeats 4000000
namespace DR
open PySem PySem.Spec PyProof.Rows L2
theorem DiceAt.ne {H : Hp} {d l : Addr} {as : List Addr} (h : DiceAt H d) (e : H l = some (.lst (as.map V.ref))) : l ≠ d := by
  rintro rfl
  obtain ⟨o, h1, xs, rfl, h2⟩ := h
  rw [e] at h1
  have q : as.map V.ref = xs.map V.int := by
    injection h1 with h1
    injection h1
  cases xs with
  | nil => simp at h2
  | cons x r =>
    cases as with
    | nil => cases q
    | cons a s =>
      injection q with q1 _
      cases q1
theorem DiceAt.some {H : Hp} {d : Addr} (h : DiceAt H d) : H d ≠ none := by
  obtain ⟨o, h1, _⟩ := h
  rw [h1]
  intro z
  cases z
theorem Kp.free {H H' : Hp} {d l : Addr} (k : Kp d H H') (hd : DiceAt H' d) (h : H' l = none) : H l = none := by
  have n : l ≠ d := fun z => hd.some (z ▸ h)
  cases e : H l with
  | none => rfl
  | some o =>
    rw [k l o n e] at h
    cases h
theorem Kp.new {H H' : Hp} {d p : Addr} {o : HO} (k : Kp d H H') (h : H' p = none) : Kp d H (upd H' p o) := k.trans (Same.kp (same_new h) d)
theorem DiceAt.new {H : Hp} {d p : Addr} {o : HO} (h : DiceAt H d) (hp : H p = none) : DiceAt (upd H p o) d := by
  obtain ⟨u, h1, h2⟩ := h
  exact ⟨u, (upd_ne (ne_of_none h1 hp)).trans h1, h2⟩
theorem DiceAt.lst {H : Hp} {d p : Addr} {o : HO} (h : DiceAt H d) (hp : p ≠ d) : DiceAt (upd H p o) d := by
  obtain ⟨u, h1, h2⟩ := h
  exact ⟨u, (upd_ne (Ne.symm hp)).trans h1, h2⟩
theorem Kp.wr {H H' : Hp} {d p : Addr} {o : HO} (k : Kp d H H') (h : H p = none) : Kp d H (upd H' p o) := fun b u n e => by
  rw [upd_ne (ne_of_none e h)]
  exact k b u n e
theorem atI_int {xs : List V} (cs : List Int) (e : xs = cs.map V.int) {i : Int} (h0 : 0 ≤ i) (h1 : i < cs.length) : ∃ c ∈ cs, atI xs i = some (.int c) := by
  subst e
  obtain ⟨v, hm, hv⟩ := atI_any (xs := cs.map V.int) h0 (by rw [List.length_map]; exact h1)
  obtain ⟨c, hc, rfl⟩ := List.mem_map.mp hm
  exact ⟨c, hc, hv⟩
/-- some of the pairs of a list, by a test that may draw -/
theorem lc_pick {K : PySem.W.Frag} {l d D : Addr} {as : List Addr} {ps : List (Int × Int)} {H0 : Hp} {σ : L2.St} {i : Nat} {tt : TT} {Qd : Hp → Prop} (hl : H0 l = some (.lst (as.map V.ref))) (ta : TupsAt H0 as ps) (hd : DiceAt H0 d) (nD : H0 D = none) (len : as.length ≤ 1000) (hi : i < σ.length)
    (test : ∀ a p H (R : Bool → Hp → Prop), p ∈ ps → H a = some (.tup [.int p.1, .int p.2]) → Kp d H0 H → DiceAt H d → (∀ b H', Kp d H H' → DiceAt H' d → R b H') → tt ((σ.set i none).set i (some (.ref a))) H R)
    (fin : ∀ H bs qs, Kp d H0 H → DiceAt H d → H D = some (.lst (bs.map V.ref)) → TupsAt H bs qs → qs.Sublist ps → Qd H) :
    ∃ W : Nat → Nat → Hp → Prop, (∃ m, W 0 m (upd H0 D (.lst []))) ∧ ∀ j m H, W j m H →
      ((Itl K l).stop j H ∧ Qd H) ∨ ((Itl K l).go j H ∧ ∃ Nx : Hp → Prop, (∀ H', Nx H' → ∃ m', m' < m ∧ W (j + 1) m' H') ∧ ∀ x H', (Itl K l).yld j H x H' → gName i x (wipe σ [i]) H' fun σ2 H2 => wipe σ2 [i] = wipe σ [i] ∧ tt σ2 H2 fun b H3 =>
        if b = true then tVar i σ2 H3 fun y H4 => ∃ acc, H4 D = some (.lst acc) ∧ acc.length < sizeLine ∧ Nx (upd H4 D (.lst (acc ++ [y]))) else Nx H3) := by
  have ld := hd.ne hl
  have dD : D ≠ d := fun z => hd.some (z ▸ nD)
  have lD : l ≠ D := ne_of_none hl nD
  refine lc_list (K := K) (a := l) (xs := as.map V.ref) (g := gName i) (tt := tt) (te := tVar i) (vs := [i]) (σ := σ) (Pv := fun j H => ∃ bs qs, Kp d H0 H ∧ DiceAt H d ∧ H D = some (.lst (bs.map V.ref)) ∧ TupsAt H bs qs ∧ qs.Sublist (ps.take j) ∧ bs.length ≤ j)
    ⟨[], [], (Kp.refl d H0).new nD, hd.new nD, upd_same, .nil, List.nil_sublist _, Nat.le_refl _⟩ (fun j H _ ⟨_, _, kp, _⟩ => SqL.of (kp l _ ld hl)) (fun j x H hx ⟨bs, qs, kp, hd', eD, tb, sb, lb⟩ => ?_) (fun H ⟨bs, qs, kp, hd', eD, tb, sb, lb⟩ => fin H bs qs kp hd' eD tb (sb.trans (List.take_sublist _ _)))
  obtain ⟨a, rfl, ha⟩ := refs_at' hx
  obtain ⟨p, hp, ea⟩ := ta.at_ ha
  have hj : j < as.length := (List.getElem?_eq_some_iff.mp ha).1
  have ad : a ≠ d := fun z => by
    obtain ⟨o, h1, xs, rfl, h2⟩ := hd
    rw [z, h1] at ea
    injection ea with ea
    cases ea
  have ea' : H a = some (.tup [.int p.1, .int p.2]) := kp a _ ad ea
  have tk : ps.take (j + 1) = ps.take j ++ [p] := by
    rw [List.take_succ, hp]
    rfl
  refine ⟨by simp [wipe, List.set_set], test a p H _ (List.mem_of_getElem? hp) ea' kp hd' fun b H' k2 hd2 => ?_⟩
  have eD' := k2 D _ dD eD
  have tb' : TupsAt H' bs qs := tb.keep fun c ys e => k2 c _ (fun z => by
    obtain ⟨o, h1, xs, rfl, h2⟩ := hd'
    rw [z, h1] at e
    injection e with e
    cases e) e
  cases b with
  | false =>
    refine iteF ⟨bs, qs, kp.trans k2, hd2, eD', tb', ?_, by omega⟩
    rw [tk]
    exact sb.trans (List.sublist_append_left _ _)
  | true =>
    refine iteT ⟨.ref a, (show ((σ.set i none).set i (some (V.ref a)))[i]? = some (some (V.ref a)) from List.getElem?_set_self (by rw [List.length_set]; exact hi)), _, eD', ?_, bs ++ [a], qs ++ [p], (kp.trans k2).wr nD, hd2.lst dD, ?_, ?_, ?_, ?_⟩
    · rw [List.length_map]
      exact small1000 (by omega)
    · rw [upd_same]
      simp
    · exact TupsAt.lst (TupsAt.append tb' (.cons (k2 a _ ad ea') .nil)) eD'
    · rw [tk]
      exact List.Sublist.append sb (List.Sublist.refl _)
    · simp
      omega
end DR

set_option Elab.async false
set_option linter.all false
set_option maxRecDepth 100000
set_option maxHeartbeats 4000000
namespace DR
open PySem PySem.Spec PyProof.Rows L2
theorem DiceAt.same {H H' : Hp} {d : Addr} (h : DiceAt H d) (s : Same H H') : DiceAt H' d := by
  obtain ⟨o, e, x⟩ := h
  exact ⟨o, s _ _ e, x⟩
/-- tuple(x) of a list or a tuple -/
def rTupOf (K : PySem.W.Frag) : List V → Hp → VK → Prop := fun xs H Q => ∃ p ys, xs = [.ref p] ∧ ((SqL K H p ys ∧ ∀ l, H l = none → Q (.ref l) (upd H l (.tup ys))) ∨ (SqT K H p ys ∧ Q (.ref p) H))
end DR

set_option Elab.async false
set_option linter.all false
set_option maxRecDepth 100000
set_option maxHeartbeats 4000000
/-! ### C(..) whose __init__ may raise -/
namespace DR
open PySem PySem.Spec PyProof.Rows L2
def HasME (P : Program) (w : World) (K : PySem.W.Frag) (mg : Str → Option Value) (base : Heap) (C : Addr) (k : Nat) (m : Str) (ps : List Str) (sp : Sp) : Prop :=
  ∃ f fd, Meth K C m f ∧ FnOk P w K mg base (L2N.CX P w) k f fd ps sp ∧ L2.Binds K fd ps []
theorem hasME_of {P : Program} {w : World} {K : PySem.W.Frag} {mg : Str → Option Value} {base : Heap} {C : Addr} {x q : Str} {st : Stmt} {N ps : List Str} {k : Nat} {sp : Sp} (D : IsMeth K C x q st) (S : FnScope N ps (defScope st)) (B : Takes0 x q st ps) (len : ∀ vs H Q E, sp vs H Q E → vs.length = ps.length)
    (body : ∀ (f : Addr) (cdv : Value) (A : Around) (outer : List Env) (s : Shared) (H : Hp) (vs : List V) (Q : VK) (E : XK), Room k (A.deeper (envOfC q (defScope st) s.heap.objs.size f cdv)) → sp vs H Q E →
      ∃ t, PSs (cxOf (L2N.CX P w) P w K mg base N q (defScope st) f cdv A outer s H E) (defBody st) t ∧ t { nx := fun _ H' => Q .non H', rt := Q } (start N vs) H) : HasME P w K mg base C (k + 1) x ps sp := by
  obtain ⟨f, fd, F, g⟩ := D
  exact ⟨f, fd, g, F.ok S len fun cdv A outer s H vs Q E hr h => body f cdv A outer s H vs Q E hr h, F.bindsN B⟩
section
variable {X : Cx} {CX : CXT} {k j : Nat} {f C : Addr} {fd : FuncData} {ps : List Str} {sp : Sp} {x : Str} {p pos : Pos} {e : Expr} {es : List Expr} {t : TA} {W : WX}
theorem run_makeS {E : XK} {pins : List (Addr × Obj)} {σ : L2.St} {H : Hp} {s : Shared} {Q : VK} {us : List Value} {vs : List V} (M : Mk X.K C f) (F : FnOk X.prog X.w X.K X.mg X.base CX k f fd ps sp) (hr : Room (k + 1) X.A) (hb : L2.Binds X.K fd ps [])
    (hx : PassesAt CX X σ E) (I : Inv X pins σ H s) (r : Vals vs us)
    (h : ∀ x dx, H x = none → H dx = none → dx ≠ x → sp (.ref x :: vs) (L2.upd (L2.upd H dx (.own x)) x (.ins C dx [])) (fun v H2 => v = .non ∧ Q (.ref x) H2) E) :
    wpAny (model X.prog X.w) X.A (call (.ref C) us) (EP X pins σ Q) X.xe s := by
  have hq := h (s.heap.objs.size + 1) s.heap.objs.size (I.hok.fresh (Nat.le_succ _)) (I.hok.fresh (Nat.le_refl _)) (Nat.ne_of_lt (Nat.lt_succ_self _))
  have I2 := Inv.made (C := C) I
  have r2 : Vals (V.ref (s.heap.objs.size + 1) :: vs) (Value.ref (s.heap.objs.size + 1) :: us) := .cons rfl r
  have hl : (Value.ref (s.heap.objs.size + 1) :: us ++ []).length = ps.length := by
    have e := r2.length
    rw [F.len _ _ _ _ hq] at e
    rw [List.append_nil]
    exact e.symm
  have b := hb _ (Value.ref (s.heap.objs.size + 1) :: us) I2.kIn hl
  rw [List.append_nil] at b
  refine wpAny_call (make_map (f := f) I.kIn M.makes M.init (beq_iff_eq.mp M.fn) (codeAny_mono (F.run _ X.stack _ _ ⟨Value.ref (s.heap.objs.size + 1) :: us, []⟩ (Value.ref (s.heap.objs.size + 1) :: us) _ _ E (hr.make C us [])
    (I2.env0.make C us []) b r2 hq) fun r s' hq' => ?_))
  cases r with
  | error e => exact hx pins _ _ e s' I2 hq'
  | ok fl =>
    cases fl with
    | ret u =>
      obtain ⟨v, H', I3, rv, ev, q3⟩ := I2.after hq'
      subst ev
      exact ⟨rv, ⟨V.ref (s.heap.objs.size + 1), H', I3, rfl, q3⟩⟩
    | next => exact False.elim hq'
    | brk => exact False.elim hq'
    | cont => exact False.elim hq'
def tHasMkE (C : Addr) (sp : Sp) (W : WX) (t : TA) : TE := fun σ H Q => t σ H fun vs H1 => ∀ x dx, H1 x = none → H1 dx = none → dx ≠ x → sp (.ref x :: vs) (L2.upd (L2.upd H1 dx (.own x)) x (.ins C dx [])) (fun v H2 => v = .non ∧ Q (.ref x) H2) (WE W σ)
theorem pe_hasMkE (h : HasME X.prog X.w X.K X.mg X.base C k "__init__" ps sp) (mk : PySem.W.makesIn X.K C = true) (kc : PySem.W.keepIn X.K (.ref C) = true) (hr : Room j X.A) (l : k + 1 ≤ j) (tk : L2N.Takes X W) (hg : Gl X x) (hm : X.mg x = some (.ref C)) (ha : PA X (e :: es) t)
    (hdb : (x == ("__debug__" : Str)) = false := by decide) (he : starEach (e :: es) X.env = (false, eval e X.env) :: starEach es X.env := by rfl) (hpl : (backTo pos (starEach es X.env)).any (·.1) = false := by rfl) :
    PE X (.Call (.Name x p) (e :: es) [] pos) (tHasMkE C sp W t) := by
  obtain ⟨f, fd, h1, h3, h4⟩ := h
  refine ⟨fun pins s σ H Q I h => ?_⟩
  refine wpAny_Call_Name_kw (ld_glob I hg hm ?_ hdb)
  refine PySem.W.callWith_K (h₀ := X.base) I.ok.mod.kin kc (thn (ha.run pos pins s σ H _ I h) fun us s1 ⟨vs, H1, I1, r, q⟩ => ⟨I1.kIn, ?_⟩) he hpl
  exact run_makeS ⟨mk, h1.at_, h1.fn, kc⟩ h3 (hr.mono l) h4 (L2N.passAt tk σ) I1 r q
end
end DR

set_option Elab.async false
set_option linter.all false
set_option maxRecDepth 100000
set_option maxHeartbeats 4000000
namespace DR
open PySem PySem.Spec PyProof.Rows L2
/-- the first thing that is wrong: where, what -/
def Wrong (m : Int) (ps : List (Int × Int)) (i : Nat) (y : Str) : Prop :=
  (¬ (1 ≤ m ∧ m ≤ 30) ∧ i = 0 ∧ y = "many") ∨
  ∃ (n : Nat) (pre rest : List (Int × Int)) (p : Int × Int), m = (n : Int) ∧ 1 ≤ n ∧ n ≤ 30 ∧ ps = pre ++ p :: rest ∧ pre.length = i ∧ Ties n pre ∧
    ((¬ (0 ≤ p.1 ∧ p.1 < p.2 ∧ p.2 < (n : Int)) ∧ y = "place") ∨ ((0 ≤ p.1 ∧ p.1 < p.2 ∧ p.2 < (n : Int)) ∧ p ∈ pre ∧ y = "twice"))
section
variable {P : Program} {w : World} {K : PySem.W.Frag} {mg : Str → Option Value} {base : Heap} {CB CE : Addr}
def spCheckB (CB : Addr) : Sp := fun vs H _ E => ∃ (m : Int) (tl : Addr) (ps : List (Int × Int)) (i : Nat) (y : Str), vs = [.int m, .ref tl] ∧ PairsAt H tl ps ∧ Wrong m ps i y ∧ ps.length ≤ 950 ∧
  ∀ H' d, Same H H' → H d = none → H' d = some (.xd [("why", .str y), ("at", .int (i : Int))]) → E (.ref CB) (some d) H'
theorem has_checkB {t : Tok} (D : IsDef K mg "check_yard" s_check_yard) (B : Blt mg) (gM : mg "MOST_PLACES" = some (.int 30 t)) (b : BadX K mg CB CE) (BI : HasM P w K mg base CB 1 "__init__" ["self", "at", "why"] (spBadInit CB)) : HasE P w K mg base 3 "check_yard" ["many", "ties"] (spCheckB CB) := by
  refine has_ofE D scCheck (fun _ _ _ _ _ _ us hl => match us, hl with | [_, _], _ => rfl) (fun vs H Q E h => ?_) (fun f cdv A outer s H vs Q E hr h => ?_)
  · obtain ⟨m, tl, ps, i, y, rfl, _⟩ := h
    rfl
  · obtain ⟨m, tl, ps, i0, y, rfl, ⟨as, el, ta⟩, wr, hp900, q⟩ := h
    have hu : ∀ {B : Around}, B.units = (A.deeper (envOfC "check_yard" (defScope s_check_yard) s.heap.objs.size f cdv)).units → B.units + 2 < cLine := fun e => by
      have := hr.units
      omega
    have tk := L2N.takes_of (X := cxOf (L2N.CX P w) P w K mg base nCheck "check_yard" (defScope s_check_yard) f cdv A outer s H E) rfl rfl rfl rfl
    refine ⟨_, pss_cons (ps_if (pt_not (pt_chain op_le op_le pe_int (pv 0) (pe_glob (v := .int 30) rfl gM ⟨_, rfl⟩))) (pss_one (ps_bad rfl tk b BI hr (by decide) (by rfl) (pa_cons pe_int (pa_cons pe_str pa_nil)))) pss_nil)
      (pss_cons (ps_set (i := 2) scCheck.nd rfl (.inl rfl) (pe_callTy0 cr_setNew (by rfl) B.set (by decide +kernel)))
      (pss_one (ps_for (passes_of rfl) rfl (pi_enum (by rfl) B.enumerate (pa_cons (pv 1) pa_nil)) (pg_tup rfl (pgs_cons (pg_name (i := 3) scCheck.nd rfl (.inl rfl)) (pgs_cons (pg_tup rfl (pgs_cons (pg_name (i := 4) scCheck.nd rfl (.inl rfl)) (pgs_cons (pg_name (i := 5) scCheck.nd rfl (.inl rfl)) pgs_nil))) pgs_nil)))
        (pss_cons (ps_if (pt_not (pt_chain3 op_le op_lt op_lt pe_int (pv 4) (pv 5) (pv 0))) (pss_one (ps_bad rfl tk b BI hr (by decide) (by rfl) (pa_cons (pv 3) (pa_cons pe_str pa_nil)))) pss_nil)
        (pss_cons (ps_if (pt_cmpR (or_gin (hu_of hr)) (pe_tup (pa_cons (pv 4) (pa_cons (pv 5) pa_nil))) (pv 2) (by with_unfolding_all rfl)) (pss_one (ps_bad rfl tk b BI hr (by decide) (by rfl) (pa_cons (pv 3) (pa_cons pe_str pa_nil)))) pss_nil)
        (pss_one (ps_expr (pe_gadd (hu rfl) (pv 2) (pa_cons (pe_tup (pa_cons (pv 4) (pa_cons (pv 5) pa_nil))) pa_nil))))))))), ?_⟩
    rcases wr with ⟨nm, rfl, rfl⟩ | ⟨n, pre, rest, bp, rfl, n1, n30, eps, lpre, ti, wrong⟩
    · refine ⟨_, rfl, _, _, rfl, rfl, _, rfl, ite2 (fun c1 => ?_) (fun _ => ⟨_, rfl, iteT ?_⟩)⟩
      · have c1 := of_decide_eq_true c1
        have c2 : ¬ m ≤ 30 := fun z => nm ⟨c1, z⟩
        refine ⟨_, _, rfl, rfl, _, rfl, ?_⟩
        rw [decide_eq_false c2]
        exact iteT (bad_go (by decide) (by decide) (by decide) fun H2 d s2 nd ed => q H2 d s2 nd ed)
      · exact bad_go (by decide) (by decide) (by decide) fun H2 d s2 nd ed => q H2 d s2 nd ed
    · have lps : pre.length < ps.length := by
        rw [eps, List.length_append, List.length_cons]
        omega
      have ptake : ∀ i, i ≤ pre.length → ps.take i = pre.take i := fun i hi => by
        rw [eps, List.take_append_of_le_length hi]
      refine ⟨_, rfl, _, _, rfl, rfl, _, rfl, iteD (by omega) ?_⟩
      refine ⟨_, _, rfl, rfl, _, rfl, iteNS (show (n : Int) ≤ 30 by omega) ?_⟩
      refine ⟨rfl, fun S nS => ?_⟩
      have s0 : Same H (upd H S (SetGO P w S [])) := same_new nS
      refine ⟨_, rfl, tl, _, rfl, SqL.of (s0 _ _ el), ?_⟩
      refine ⟨fun i m σ H2 => ∃ (L : List (Addr × List Int)) (x3 x4 x5 : Option V), σ = [some (.int (n : Int)), some (.ref tl), some (.ref S), x3, x4, x5] ∧ i + m = ps.length ∧ i ≤ pre.length ∧ Kp S H H2 ∧ H2 S = some (SetGO P w S L) ∧
          (∀ q ∈ L, H2 q.1 = some (.tup (q.2.map V.int))) ∧ (∀ k ∈ L.map (·.2), ∃ p ∈ ps.take i, k = [p.1, p.2]) ∧ (∀ p ∈ ps.take i, [p.1, p.2] ∈ L.map (·.2)) ∧ L.length ≤ i,
        ⟨ps.length, [], none, none, none, rfl, by omega, Nat.zero_le _, Kp.put _ _ _, upd_same, (by intro q hq; cases hq), (by intro q hq; cases hq), (by intro q hq; cases hq), Nat.le_refl _⟩, ?_⟩
      rintro i m σ H2 ⟨L, x3, x4, x5, rfl, em, ip, kp, eS, hL, hk, hk2, hlen⟩
      have s2 : Same H H2 := fun c o e => kp c o (ne_of_none e nS) e
      have hl := ta.length
      have hi : i < ps.length := by omega
      have ha : as[i]? = some as[i] := List.getElem?_eq_getElem (by omega)
      obtain ⟨p, hp, ea⟩ := ta.at_ ha
      generalize as[i] = a at ha ea
      refine .inr ⟨⟨_, _, SqL.of (s2 _ _ el), by rw [List.getElem?_map, ha]; rfl⟩, fun σ' H' => ∃ (L : List (Addr × List Int)) (x3 x4 x5 : Option V), σ' = [some (.int (n : Int)), some (.ref tl), some (.ref S), x3, x4, x5] ∧ i + 1 ≤ pre.length ∧ Kp S H H' ∧ H' S = some (SetGO P w S L) ∧
        (∀ q ∈ L, H' q.1 = some (.tup (q.2.map V.int))) ∧ (∀ k ∈ L.map (·.2), ∃ p ∈ ps.take (i + 1), k = [p.1, p.2]) ∧ (∀ p ∈ ps.take (i + 1), [p.1, p.2] ∈ L.map (·.2)) ∧ L.length ≤ i + 1, fun σ' H' ⟨L, y3, y4, y5, h1, h0, h2, h3, h4, h5, h5b, h6⟩ => ⟨m - 1, by omega, L, y3, y4, y5, h1, by omega, h0, h2, h3, h4, h5, h5b, h6⟩, ?_⟩
      rintro v H' ⟨T, x, rfl, nT, rfl, fx⟩
      have ex : x = .ref a := by
        have z := fx _ (SqL.of (s2 _ _ el))
        rw [List.getElem?_map, ha] at z
        exact (Option.some.inj z).symm
      subst ex
      have s3 : Same H2 (upd H2 T (.tup [.int (i : Nat), .ref a])) := same_new nT
      refine ⟨T, _, rfl, SqT.of upd_same, rfl, _, _, rfl, _, _, rfl, a, _, rfl, SqT.of (s3 _ _ (s2 _ _ ea)), rfl, _, _, rfl, _, _, rfl, rfl, rfl, ?_⟩
      generalize upd H2 T (.tup [.int (i : Nat), .ref a]) = H3 at s3
      have s03 := s2.trans s3
      by_cases inp : i < pre.length
      · have hpp : pre[i]? = some p := by
          rw [eps, List.getElem?_append_left inp] at hp
          exact hp
        have hpm := List.mem_of_getElem? hpp
        have pr := ti.rng p hpm
        -- 0 <= one < other < many
        refine ⟨_, rfl, _, _, rfl, rfl, _, rfl, iteD pr.1 ?_⟩
        refine ⟨_, rfl, _, _, rfl, rfl, _, rfl, iteD pr.2.1 ?_⟩
        refine ⟨_, rfl, _, _, rfl, rfl, _, rfl, iteNS pr.2.2 ?_⟩
        -- (one, other) in ahead
        refine ⟨_, rfl, _, rfl, by show 2 ≤ sizeLine; decide, fun t1 nt1 => ?_⟩
        have s4 : Same H3 (upd H3 t1 (.tup [.int p.1, .int p.2])) := same_new nt1
        have fresh : [p.1, p.2] ∉ L.map (·.2) := fun z => by
          obtain ⟨p', hp', e⟩ := hk _ z
          have e1 : p = p' := by
            injection e with e1 e2
            injection e2 with e2 _
            exact Prod.ext e1 e2
          subst e1
          rw [ptake i (by omega)] at hp'
          obtain ⟨j, hj⟩ := List.getElem?_of_mem hp'
          rw [List.getElem?_take] at hj
          split at hj
          · rename_i hji
            have := (List.getElem?_inj (show j < pre.length by omega) ti.nd).mp (hj.trans hpp.symm)
            omega
          · cases hj
        refine ⟨_, rfl, t1, S, [p.1, p.2], L, rfl, rfl, s4 _ _ (s3 _ _ eS), fun q hq => SqT.of (s4 _ _ (s3 _ _ (hL q hq))), SqT.of upd_same, _, rfl, ite2 (fun z => absurd (of_decide_eq_true z) fresh) (fun _ => ?_)⟩
        -- ahead.add((one, other))
        have s5 : Same H2 (upd H3 t1 (.tup [.int p.1, .int p.2])) := s3.trans s4
        generalize upd H3 t1 (.tup [.int p.1, .int p.2]) = H4 at s5
        refine ⟨_, rfl, S, L, rfl, s5 _ _ eS, _, rfl, _, rfl, by show 2 ≤ sizeLine; decide, fun t2 nt2 => ?_⟩
        have s6 : Same H4 (upd H4 t2 (.tup [.int p.1, .int p.2])) := same_new nt2
        have s7 := s5.trans s6
        refine ⟨t2, [p.1, p.2], rfl, s7 _ _ eS, fun q hq => SqT.of (s7 _ _ (hL q hq)), SqT.of upd_same, by omega, fun L' _ c2 => ?_⟩
        have pm := c2 fresh
        have tS : ∀ {b xs}, (upd H4 t2 (.tup [.int p.1, .int p.2])) b = some (.tup xs) → b ≠ S := fun {b xs} e => ne_of e (s7 _ _ eS) (by intro z; cases z)
        refine ⟨L', _, _, _, rfl, by omega, fun c o nc e => ?_, upd_same, fun q hq => ?_, fun k hk' => ?_, fun p' hp' => ?_, ?_⟩
        · rw [upd_ne nc]
          exact s7 _ _ (kp c o nc e)
        · rcases List.mem_cons.mp (pm.mem_iff.mp hq) with e | e
          · subst e
            rw [upd_ne (tS (b := t2) upd_same)]
            exact upd_same
          · have z := s7 _ _ (hL q e)
            rw [upd_ne (tS z)]
            exact z
        · rcases List.mem_cons.mp ((pm.map (·.2)).mem_iff.mp hk') with e | e
          · exact ⟨p, by rw [List.take_succ, hp]; simp, e⟩
          · obtain ⟨p', h1, h2⟩ := hk k e
            exact ⟨p', by rw [List.take_succ]; exact List.mem_append_left _ h1, h2⟩
        · refine (pm.map (·.2)).mem_iff.mpr ?_
          rw [List.take_succ, hp] at hp'
          rcases List.mem_append.mp hp' with z | z
          · exact List.mem_cons_of_mem _ (hk2 p' z)
          · have : p' = p := by simpa using z
            rw [this]
            exact List.mem_cons_self
        · rw [pm.length_eq, List.length_cons]
          omega
      · have ei : i = pre.length := by omega
        have hpb : p = bp := by
          rw [eps, ei, List.getElem?_append_right (Nat.le_refl _), Nat.sub_self] at hp
          exact (Option.some.inj hp).symm
        subst hpb
        have qq : ∀ (H5 : Hp), Same H H5 → ∀ H2 d, Same H5 H2 → H5 d = none → H2 d = some (.xd [("why", .str y), ("at", .int ((i : Nat) : Int))]) → E (.ref CB) (some d) H2 := fun H5 sx H2 d s2 nd ed => q H2 d (sx.trans s2) (sx.free nd) (by rw [← lpre, ← ei]; exact ed)
        rcases wrong with ⟨bad, rfl⟩ | ⟨ok, mem, rfl⟩
        · refine ⟨_, rfl, _, _, rfl, rfl, _, rfl, ite2 (fun c1 => ?_) (fun _ => iteT ?_)⟩
          · have c1 := of_decide_eq_true c1
            refine ⟨_, rfl, _, _, rfl, rfl, _, rfl, ite2 (fun c2 => ?_) (fun _ => iteT ?_)⟩
            · have c2 := of_decide_eq_true c2
              refine ⟨_, rfl, _, _, rfl, rfl, _, rfl, ite2 (fun _ => ?_) (fun c3 => ?_)⟩
              · exact ⟨_, rfl, bad_go (by omega) (by omega) (by decide) (qq _ s03)⟩
              · exact absurd (show 0 ≤ p.1 ∧ p.1 < p.2 ∧ p.2 < (n : Int) from ⟨c1, c2, by simpa using c3⟩) bad
            · exact ⟨_, rfl, bad_go (by omega) (by omega) (by decide) (qq _ s03)⟩
          · exact ⟨_, rfl, bad_go (by omega) (by omega) (by decide) (qq _ s03)⟩
        · refine ⟨_, rfl, _, _, rfl, rfl, _, rfl, iteD ok.1 ?_⟩
          refine ⟨_, rfl, _, _, rfl, rfl, _, rfl, iteD ok.2.1 ?_⟩
          refine ⟨_, rfl, _, _, rfl, rfl, _, rfl, iteNS ok.2.2 ?_⟩
          refine ⟨_, rfl, _, rfl, by show 2 ≤ sizeLine; decide, fun t1 nt1 => ?_⟩
          have s4 : Same H3 (upd H3 t1 (.tup [.int p.1, .int p.2])) := same_new nt1
          have inL : [p.1, p.2] ∈ L.map (·.2) := hk2 p (by
            rw [ptake i (by omega), ei, List.take_length]
            exact mem)
          refine ⟨_, rfl, t1, S, [p.1, p.2], L, rfl, rfl, s4 _ _ (s3 _ _ eS), fun q hq => SqT.of (s4 _ _ (s3 _ _ (hL q hq))), SqT.of upd_same, _, rfl, ite2 (fun _ => ?_) (fun z => absurd (decide_eq_true inL) z)⟩
          exact ⟨_, rfl, bad_go (by omega) (by omega) (by decide) (qq _ (s03.trans s4))⟩
end
end DR

set_option Elab.async false
set_option linter.all false
set_option maxRecDepth 100000
set_option maxHeartbeats 4000000
namespace DR
open PySem PySem.Spec PyProof.Rows L2
section
variable {P : Program} {w : World} {K : PySem.W.Frag} {mg : Str → Option Value} {base : Heap} {C CB CE : Addr}
def spInitB (CB : Addr) : Sp := fun vs H _ E => ∃ (x tl : Addr) (m : Int) (ps : List (Int × Int)) (i : Nat) (y : Str), vs = [.ref x, .int m, .ref tl] ∧ PairsAt H tl ps ∧ Wrong m ps i y ∧ ps.length ≤ 950 ∧
  ∀ H' d, Same H H' → H d = none → H' d = some (.xd [("why", .str y), ("at", .int (i : Int))]) → E (.ref CB) (some d) H'
theorem has_initB (D : IsMeth K C "__init__" "Yard.__init__" s_Yard_init) (CH : HasE P w K mg base 3 "check_yard" ["many", "ties"] (spCheckB CB)) : HasME P w K mg base C 4 "__init__" ["self", "many", "ties"] (spInitB CB) := by
  refine hasME_of D scInit (fun _ _ _ _ _ _ us hl => match us, hl with | [_, _, _], _ => rfl) (fun vs H Q E h => ?_) (fun f cdv A outer s H vs Q E hr h => ?_)
  · obtain ⟨x, tl, m, ps, i, y, rfl, _⟩ := h
    rfl
  · obtain ⟨x, tl, m, ps, i, y, rfl, pa, wr, hp900, q⟩ := h
    refine ⟨_, pss_cons (ps_expr (pe_hasE CH hr (by decide) (L2N.takes_of rfl rfl rfl rfl) (by rfl) (pa_cons (pv 1) (pa_cons (pv 2) pa_nil)))) pss_never, ?_⟩
    exact ⟨_, rfl, _, rfl, m, tl, ps, i, y, rfl, pa, wr, hp900, q⟩
end
end DR

set_option Elab.async false
set_option linter.all false
set_option maxRecDepth 100000
set_option maxHeartbeats 4000000
namespace DR
open PySem PySem.Spec PyProof.Rows L2
/-- over enumerate(.., start=k) -/
theorem lc_enumS {K : PySem.W.Frag} {a : Addr} {k0 : Int} {xs : List V} {g : TG} {tt : TT} {te : TE} {vs : List Nat} {σ : L2.St} {H1 : Hp} {D : Addr} {Qd : Hp → Prop} (Pv : Nat → Hp → Prop) (h0 : Pv 0 (upd H1 D (.lst []))) (hl : ∀ i H, i ≤ xs.length → Pv i H → SqL K H a xs)
    (hs : ∀ i x H T, xs[i]? = some x → Pv i H → H T = none → g (.ref T) (wipe σ vs) (upd H T (.tup [.int (k0 + (i : Nat)), x])) fun σ2 H2 => wipe σ2 vs = wipe σ vs ∧ tt σ2 H2 fun b H3 =>
      if b = true then te σ2 H3 fun y H4 => ∃ acc, H4 D = some (.lst acc) ∧ acc.length < sizeLine ∧ Pv (i + 1) (upd H4 D (.lst (acc ++ [y]))) else Pv (i + 1) H3) (hd : ∀ H, Pv xs.length H → Qd H) :
    ∃ W : Nat → Nat → Hp → Prop, (∃ m, W 0 m (upd H1 D (.lst []))) ∧ ∀ i m H, W i m H →
      ((IteS K a k0).stop i H ∧ Qd H) ∨ ((IteS K a k0).go i H ∧ ∃ Nx : Hp → Prop, (∀ H', Nx H' → ∃ m', m' < m ∧ W (i + 1) m' H') ∧ ∀ x H', (IteS K a k0).yld i H x H' → g x (wipe σ vs) H' fun σ2 H2 => wipe σ2 vs = wipe σ vs ∧ tt σ2 H2 fun b H3 =>
        if b = true then te σ2 H3 fun y H4 => ∃ acc, H4 D = some (.lst acc) ∧ acc.length < sizeLine ∧ Nx (upd H4 D (.lst (acc ++ [y]))) else Nx H3) := by
  refine ⟨fun i m H => m = xs.length - i ∧ i ≤ xs.length ∧ Pv i H, ⟨xs.length, by simp, Nat.zero_le _, h0⟩, ?_⟩
  rintro i m H ⟨rfl, hi, p⟩
  have q := hl i H hi p
  by_cases hlt : i < xs.length
  · refine .inr ⟨⟨xs, xs[i], q, by simp [hlt]⟩, Pv (i + 1), fun H' p' => ⟨xs.length - (i + 1), by omega, rfl, hlt, p'⟩, fun x H' y => ?_⟩
    obtain ⟨T, z, rfl, nT, rfl, y⟩ := y
    exact hs i z H T (y xs q) p nT
  · have e : i = xs.length := by omega
    subst e
    exact .inl ⟨⟨xs, q, Nat.le_refl _⟩, hd H p⟩
abbrev nRead : List Str := ["text", "first", "others", "numbers", "ties", "at", "row"]
theorem scRead : FnScope nRead ["text"] (defScope s_read) := ⟨rfl, rfl, rfl, by decide +kernel, rfl, by decide +kernel, by decide +kernel⟩
end DR

set_option Elab.async false
set_option linter.all false
set_option maxRecDepth 100000
set_option maxHeartbeats 4000000
namespace DR
open PySem PySem.Spec PyProof.Rows L2 TL
open GxR (TabB TabG Tabbed)
section
variable {X : Cx} {e : Expr} {es : List Expr} {t : TA} {x : Str} {p pos : Pos} {k j : Nat} {ps : List Str} {sp : Sp} {E : XK}
/-- f(..) that may raise, within a block -/
theorem pe_hasP (h : HasE X.prog X.w X.K X.mg X.base k x ps sp) (hr : Room j X.A) (l : k ≤ j) (hx : ∀ σ', PassesAt (L2N.CX X.prog X.w) X σ' E) (hg : Gl X x) (ha : PA X (e :: es) t)
    (hdb : (x == ("__debug__" : Str)) = false := by decide) (he : starEach (e :: es) X.env = (false, eval e X.env) :: starEach es X.env := by rfl) (hpl : (backTo pos (starEach es X.env)).any (·.1) = false := by rfl) :
    PE X (.Call (.Name x p) (e :: es) [] pos) (tCallS sp (fun _ => E) t) := by
  obtain ⟨f, fd, h1, h2, h3, h4⟩ := h
  exact pe_callS h3 (hr.mono l) hg h1 h2 h4 hx ha hdb he hpl
end
section
variable {P : Program} {w : World} {K : PySem.W.Frag} {mg : Str → Option Value} {base : Heap} {C CB CT T1 T2 : Addr}
def spReadE (CB CT T1 T2 : Addr) : Sp := fun vs H _ E => ∃ (r0 : Str) (rs : List Str), vs = [.str (Txt.join "\n" (r0 :: rs))] ∧ (∀ r ∈ r0 :: rs, 10 ∉ TL.tl r ∧ r.length ≤ 1000) ∧ (Txt.join "\n" (r0 :: rs)).length ≤ 100000 ∧ T1 ≠ T2 ∧ TabG H T1 ∧ TabG H T2 ∧
  ((rowNums "yard" 1 r0 = none ∧ ∀ d H', Gw T1 T2 H H' → H d = none → H' d = some (.xd [("row", .int 0)]) → E (.ref CT) (some d) H') ∨
   ∃ (m : Int) (ps : List (Int × Int)), rowNums "yard" 1 r0 = some [m] ∧ ps.length ≤ 900 ∧ (∀ (j : Nat) (r : Str) (p : Int × Int), rs[j]? = some r → ps[j]? = some p → rowNums "tie" 2 r = some [p.1, p.2]) ∧
    ((∃ b, rs[ps.length]? = some b ∧ rowNums "tie" 2 b = none ∧ ∀ d H', Gw T1 T2 H H' → H d = none → H' d = some (.xd [("row", .int (1 + (ps.length : Nat)))]) → E (.ref CT) (some d) H') ∨
     (rs.length = ps.length ∧ ∃ i y, Wrong m ps i y ∧ ∀ d H', Gw T1 T2 H H' → H d = none → H' d = some (.xd [("why", .str y), ("at", .int (i : Int))]) → E (.ref CB) (some d) H')))
theorem has_readE (D : IsDef K mg "read" s_read) (B : Blt mg) (T : YTxt K mg C) (I : HasME P w K mg base C 4 "__init__" ["self", "many", "ties"] (spInitB CB)) (mk : PySem.W.makesIn K C = true) (kc : PySem.W.keepIn K (.ref C) = true)
    (NU : HasE P w K mg base 4 "numbers_of" ["row", "at", "name", "many"] (spNumsE T1 T2 CT)) : HasE P w K mg base 6 "read" ["text"] (spReadE CB CT T1 T2) := by
  refine has_ofE D scRead (fun _ _ _ _ _ _ us hl => match us, hl with | [_], _ => rfl) (fun vs H Q E h => ?_) (fun f cdv A outer s H vs Q E hr h => ?_)
  · obtain ⟨r0, rs, rfl, _⟩ := h
    rfl
  · obtain ⟨r0, rs, rfl, rows, tlen, ne, t1, t2, q⟩ := h
    refine ⟨_, pss_cons (ps_asg (pe_split (pv 0) pe_str) (pg_star (by rfl) (pg_name (i := 1) scRead.nd rfl (.inl rfl)) (pg_name (i := 2) scRead.nd rfl (.inl rfl))))
      (pss_cons (ps_set (i := 3) scRead.nd rfl (.inl rfl) (pe_hasE NU hr (by decide) (L2N.takes_of rfl rfl rfl rfl) (by rfl) (pa_cons (pv 1) (pa_cons pe_int (pa_cons pe_str (pa_cons pe_int pa_nil))))))
      (pss_cons (ps_setLcX (i := 4) (own := [("at", 5), ("row", 6)]) (g := gTup K 2 (gCons (gName 5) (gCons (gName 6) gNil))) (tt := tYes) (te := fun E => tCB (rTupOf K) (tCons (tCallS (spNumsE T1 T2 CT) (fun _ => E) (tCons (tVar 6) (tCons (tVar 5) (tCons (tC (.str "tie")) (tCons (tC (.int 2)) tNil))))) tNil))
          (by rfl) rfl rfl (L2N.takes_of rfl rfl rfl rfl) scRead.nd rfl rfl (sw_true rfl rfl rfl (by decide +kernel)) (pi_enumS (by rfl) B.enumerate (pa_cons (pv 2) pa_nil) (by decide) (by decide)) (blkOk_by (N := nRead) (sc := defScope s_read) (by decide +kernel))
          (fun _ _ _ _ _ _ => by exact (pg_tup rfl (pgs_cons (by exact (pg_name (i := 5) scRead.nd rfl (.inl rfl))) (pgs_cons (by exact (pg_name (i := 6) scRead.nd rfl (.inl rfl))) pgs_nil)))) (fun _ _ _ _ _ _ => pts_nil)
          (fun _ _ _ _ _ _ E' hp => by exact pe_callTy (T := "tuple") (r := rTupOf K) call_tuple_of (by rfl) B.tuple (by decide +kernel) (pa_cons (pe_hasP NU hr (by decide) hp (by rfl) (pa_cons (pv 6) (pa_cons (pv 5) (pa_cons pe_str (pa_cons pe_int pa_nil))))) pa_nil)))
      (pss_one (ps_ret (pe_hasMkE (j := 5) I mk kc hr (by decide) (L2N.takes_of rfl rfl rfl rfl) (by rfl) T.mgC (pa_cons (pe_ix (r := rIxL K) ix_list (pv 3) pe_int (fun _ _ => rfl)) (pa_cons (pv 4) pa_nil))))))), ?_⟩
    have ss : 100002 ≤ sizeLine := by decide
    have sx : 1000 ≤ sizeLine := by decide
    have sp : Txt.split (Txt.join "\n" (r0 :: rs)) "\n" = r0 :: rs := split_join (s := 10) (S := []) rfl (by decide +kernel) (List.cons_ne_nil _ _) fun p h => (rows p h).1
    refine ⟨_, rfl, ⟨_, rfl⟩, Txt.join "\n" (r0 :: rs), "\n", rfl, rfl, rfl, by omega, fun p np => ?_⟩
    rw [sp]
    have s1 := same_new (o := .lst ((r0 :: rs).map V.str)) np
    refine ⟨p, .str r0, rs.map V.str, rfl, SqL.of upd_same, fun D nD => ?_⟩
    have s2 := s1.trans (same_new (o := .lst (rs.map V.str)) nD)
    have eD : upd (upd H p (.lst ((r0 :: rs).map V.str))) D (.lst (rs.map V.str)) D = some (.lst (rs.map V.str)) := upd_same
    generalize upd (upd H p (.lst ((r0 :: rs).map V.str))) D (.lst (rs.map V.str)) = H2 at s2 eD
    have g2 : Gw T1 T2 H H2 := .of t1 t2 s2
    refine ⟨_, rfl, r0, "yard", 0, 1, rfl, (rows r0 List.mem_cons_self).2, by omega, by omega, ne, g2.t1, g2.t2, fun ns0 hns N H3 g3 nN eN => ?_, fun hno d H3 g3 nd ed => ?_⟩
    case refine_2 =>
      rcases q with ⟨h0, q⟩ | ⟨m, ps, h0, _⟩
      · exact q d H3 (g2.trans g3) (g2.none_ d nd) ed
      · rw [h0] at hno
        cases hno
    rcases q with ⟨h0, q⟩ | ⟨m, ps, h0, pl, par, q⟩
    · rw [h0] at hns
      cases hns
    rw [h0] at hns
    obtain rfl : [m] = ns0 := Option.some.inj hns
    have eD3 := g3.lst eD
    have g03 := g2.trans g3
    have lr : (rs.map V.str).length = rs.length := List.length_map ..
    have lp : ps.length ≤ rs.length := by
      rcases q with ⟨b, hb, _⟩ | ⟨hl, _⟩
      · have := (List.getElem?_eq_some_iff.mp hb).1
        omega
      · omega
    refine ⟨_, rfl, D, _, rfl, SqL.of eD3, fun L nL => lc_enumS (K := K) (a := D) (k0 := 1) (xs := rs.map V.str) (vs := [5, 6])
      (Pv := fun k H' => k ≤ ps.length ∧ Gw T1 T2 H3 H' ∧ ∃ as : List Addr, H' L = some (.lst (as.map V.ref)) ∧ TupsAt H' as (ps.take k)) ?_ (fun i H' _ ⟨_, g, _⟩ => SqL.of (g.lst eD3)) (fun i x H' T hx ⟨hi, g, as, eL, ta⟩ nT => ?_) (fun H' ⟨hi, g, as, eL, ta⟩ => ?_)⟩
    · exact ⟨Nat.zero_le _, .of g3.t1 g3.t2 (same_new nL), [], upd_same, .nil⟩
    · rw [List.getElem?_map] at hx
      obtain ⟨r, hr0⟩ : ∃ r, rs[i]? = some r := by
        cases e : rs[i]? with
        | none => rw [e] at hx; cases hx
        | some r => exact ⟨r, rfl⟩
      rw [hr0] at hx
      obtain rfl : V.str r = x := Option.some.inj hx
      have mr := rows r (List.mem_cons_of_mem _ (List.mem_of_getElem? hr0))
      have sT : Same H' (upd H' T (.tup [.int (1 + (i : Nat)), .str r])) := same_new nT
      have gT := Gw.of g.t1 g.t2 sT
      refine ⟨T, _, rfl, SqT.of upd_same, rfl, _, _, rfl, _, _, rfl, rfl, rfl, ?_⟩
      refine ⟨_, rfl, _, rfl, r, "tie", _, 2, rfl, mr.2, by omega, by omega, ne, gT.t1, gT.t2, fun ns hns l H5 g5 nl el => ?_, fun hno d H5 g5 nd ed => ?_⟩
      · have ip : i < ps.length := by
          rcases Nat.lt_or_ge i ps.length with z | z
          · exact z
          · have ei : i = ps.length := by omega
            rcases q with ⟨b, hb, hbn, _⟩ | ⟨hl, _⟩
            · rw [← ei, hr0] at hb
              obtain rfl : r = b := Option.some.inj hb
              rw [hbn] at hns
              cases hns
            · have := (List.getElem?_eq_some_iff.mp hr0).1
              omega
        obtain ⟨pr, hp⟩ : ∃ pr, ps[i]? = some pr := ⟨_, List.getElem?_eq_getElem ip⟩
        have hpp := par i r pr hr0 hp
        rw [hpp] at hns
        obtain rfl : [pr.1, pr.2] = ns := Option.some.inj hns
        refine ⟨l, _, rfl, .inl ⟨SqL.of el, fun q0 nq => ?_⟩⟩
        have g6 : Gw T1 T2 H' (upd H5 q0 (.tup [.int pr.1, .int pr.2])) := (gT.trans g5).same2 (same_new nq)
        have e6 := g6.lst eL
        have la : as.length = i := by
          rw [ta.length, List.length_take]
          omega
        refine ⟨_, e6, ?_, ?_⟩
        · rw [List.length_map, la]
          omega
        have put : ∀ (H6 : Hp) (xs ys : List V), H6 L = some (.lst xs) → Gw T1 T2 H3 H6 → H3 L = none → Gw T1 T2 H3 (upd H6 L (.lst ys)) := fun H6 xs ys e k n3 => by
          refine ⟨fun b o eb no => ?_, fun b eb => ?_, ?_, ?_⟩
          · rw [upd_ne (ne_of_none eb n3)]
            exact k.same b o eb no
          · exact k.none_ b (none_upd eb).2
          · obtain ⟨qs, z1, z2⟩ := k.t1
            exact ⟨qs, (upd_ne (ne_of z1 e (by intro z; cases z))).trans z1, z2⟩
          · obtain ⟨qs, z1, z2⟩ := k.t2
            exact ⟨qs, (upd_ne (ne_of z1 e (by intro z; cases z))).trans z1, z2⟩
        refine ⟨by omega, put _ _ _ e6 (g.trans g6) nL, as ++ [q0], ?_, ?_⟩
        · rw [upd_same, List.map_append]
          rfl
        · rw [List.take_succ, hp]
          exact (((ta.keep fun b xs e => g6.tup e).append (.cons (upd_same : upd H5 q0 (.tup [.int pr.1, .int pr.2]) q0 = _) .nil)).lst e6)
      · have gg : Gw T1 T2 H H5 := (g03.trans g).trans (gT.trans g5)
        have nd0 : H d = none := g03.none_ d (g.none_ d (gT.none_ d nd))
        have ei : i = ps.length := by
          rcases Nat.lt_or_ge i ps.length with z | z
          · obtain ⟨pr, hp⟩ : ∃ pr, ps[i]? = some pr := ⟨_, List.getElem?_eq_getElem z⟩
            rw [par i r pr hr0 hp] at hno
            cases hno
          · omega
        rcases q with ⟨b, hb, hbn, q⟩ | ⟨hl, _⟩
        · refine q d H5 gg nd0 ?_
          rw [← ei]
          exact ed
        · have := (List.getElem?_eq_some_iff.mp hr0).1
          omega
    · rw [lr] at hi ta
      have el : rs.length = ps.length := by omega
      rcases q with ⟨b, hb, _⟩ | ⟨_, i, y, wr, q⟩
      · have := (List.getElem?_eq_some_iff.mp hb).1
        omega
      · rw [el, List.take_length] at ta
        have pL : PairsAt H' L ps := ⟨as, eL, ta⟩
        have gH : Gw T1 T2 H H' := g03.trans g
        refine ⟨_, rfl, N, _, _, _, rfl, rfl, SqL.of (g.lst eN), atI_nat (j := 0) rfl, _, rfl, fun x dx nx ndx hne => ?_⟩
        have sx : Same H' (upd (upd H' dx (.own x)) x (.ins C dx [])) := (same_new ndx).trans (same_new ((upd_ne (Ne.symm hne)).trans nx))
        refine ⟨x, L, m, ps, i, y, rfl, pL.same sx, wr, by omega, fun H6 d s6 nd ed => ?_⟩
        refine q d H6 (gH.same2 (sx.trans s6)) (gH.none_ d ?_) ed
        have h1 := none_upd nd
        exact (none_upd h1.2).2
end
end DR

set_option Elab.async false
set_option linter.all false
set_option maxRecDepth 100000
set_option maxHeartbeats 4000000
/-! ### a range walked while an exception is handled -/
namespace DR
open PySem PySem.W PySem.Spec PyProof.Rows L2
open HotX (HotAt raiseNew_hot)
/-- [elt for tg in range(n)], while an exception is handled -/
def tLcHotR (ta : TA) (g : TG) (te : TE) (vs : List Nat) : TE := fun σ H Q => ta σ H fun us H1 => ∃ n : Nat, us = [.int (n : Int)] ∧ n < 2 ^ 60 ∧ ∀ D, H1 D = none → ∃ Pv : Nat → Hp → Prop, Pv 0 (upd H1 D (.lst [])) ∧
  (∀ i H, i < n → Pv i H → g (.int (i : Int)) (wipe σ vs) H fun σ2 H2 => wipe σ2 vs = wipe σ vs ∧ te σ2 H2 fun y H3 => ∃ acc, H3 D = some (.lst acc) ∧ acc.length < sizeLine ∧ Pv (i + 1) (upd H3 D (.lst (acc ++ [y])))) ∧ ∀ H, Pv n H → Q (.ref D) H
section
variable {X : Cx}
theorem pe_lcHotB {elt tg a : Expr} {scope : Scope} {own : List (Str × Nat)} {p pos rpos : Pos} {ta : TA} {g : TG} {te : TE} (hot : L2H.HotC X) (hN : X.N.Nodup) (hgr : Gl X "range") (hmr : X.mg "range" = none) (ha : PA X [a] ta) (ok : BlkOk X.N X.env.scope scope own)
    (hg : ∀ (s : Shared) (H : Hp) (C : Addr) (cl : List (Str × Addr)) (fp : List Addr), PG (X.blk s H scope (compEnvC scope cl C X.env) fp) tg g)
    (he : ∀ (pins : List (Addr × Obj)) (σ : L2.St) (s : Shared) (H : Hp) (C : Addr) (cl : List (Str × Addr)) (fp : List Addr), (∀ (pins' : List (Addr × Obj)) (σ' : L2.St) (H' : Hp) (s' : Shared), Inv (X.blk s H scope (compEnvC scope cl C X.env) fp) pins' σ' H' s' → Inv X pins σ H' s') → PE (X.blk s H scope (compEnvC scope cl C X.env) fp) elt te) (hss : starEach [a] X.env = [(false, eval a X.env)] := by rfl) (hs : ∀ x, foldedSetIterable (.Call (.Name "range" p) [a] [] rpos) X.env x = pure x := by intro _; rfl) :
    PE X (.ListComp elt [⟨tg, .Call (.Name "range" p) [a] [] rpos, [], 0⟩] scope pos) (tLcHotR ta g te (own.map (·.2))) := by
  refine ⟨fun pins s σ H Q I h => ?_⟩
  rw [eval_ListComp]
  have cap : ∀ y ∈ scope.names, y.2 = .free → ∃ c, X.env.cells.lookup y.1 = some c := fun y hy e => (ok.free y hy e).elim (fun k => I.ok.has _ (.inl k)) fun k => I.ok.has _ (.inr k)
  refine wpAny_comprehension_free rfl hs (closure_ok cap) ok.kind (fun y hy e => by rw [ok.uniq y hy, e]) (Call_ (ld_blt I hgr hmr boot_range (PyProof.Rows.callWith_type1 (thn (ha.run rpos pins s σ H _ I h) fun us0 s0 z => ?_) hss rfl)))
  obtain ⟨vs0, H1, I0, r0, n, e0, hn60, q⟩ := z
  subst e0
  cases r0 with
  | cons r0 rr0 =>
  cases rr0
  obtain ⟨tk0, rfl⟩ := r0
  refine call_range_1 ?_
  have I1 : Inv X pins σ H1 { s0 with heap := s0.heap.push { cls := .type "range", data := .fields #[.int 0 s0.toks, .int (n : Int) tk0, .int 1 (s0.toks + 1)] }, toks := s0.toks + 1 + 1 } := I0.kept fun b o e => Heap.get?_push_of_some _ e
  refine wpAny_pyIter_range (IsRange.new ..) (small_one (by decide) (by decide) (by omega) (by omega)) ?_
  have esz : Builtin.Range.rangeSize 0 (n : Int) 1 = (n : Int) := by
    rw [rangeSize_one]
    split <;> omega
  rw [esz]
  generalize ({ s0 with heap := s0.heap.push { cls := .type "range", data := .fields #[.int 0 s0.toks, .int (n : Int) tk0, .int 1 (s0.toks + 1)] }, toks := s0.toks + 1 + 1 } : Shared) = s1 at I1 ⊢
  have I2 : Inv X pins σ H1 { s1 with heap := s1.heap.push { cls := .type "range_iterator", data := .fields #[rawInt 0, rawInt (n : Int), rawInt 1] } } := I1.kept (t' := s1.toks) fun b o e => Heap.get?_push_of_some _ e
  have u2 : IsRangeIter (s1.heap.push { cls := .type "range_iterator", data := .fields #[rawInt 0, rawInt (n : Int), rawInt 1] }) s1.heap.objs.size (((0 : Nat) : Int)) ((n : Int) - ((0 : Nat) : Int)) 1 := by
    have e : (n : Int) - ((0 : Nat) : Int) = (n : Int) := by omega
    rw [e]
    exact Heap.get?_push_size _ rfl
  have ok2 : FpOk X pins H1 s1.heap.objs.size := I1.fpOk (Nat.le_refl _) (I1.hok.fresh (Nat.le_refl _))
  have sz2 : s1.heap.objs.size < (s1.heap.push { cls := .type "range_iterator", data := .fields #[rawInt 0, rawInt (n : Int), rawInt 1] }).objs.size := by
    rw [Heap.size_push]
    exact Nat.lt_succ_self _
  obtain ⟨pe1, ⟨hh, v1, dd, cc⟩, pm⟩ := hot
  have px : pe1.1 < s1.heap.objs.size := Heap.lt_size (I1.pin pe1 (List.mem_append_left _ pm)).1
  generalize s1.heap.objs.size = it at *
  generalize s1.heap.push { cls := .type "range_iterator", data := .fields #[rawInt 0, rawInt (n : Int), rawInt 1] } = g2 at *
  refine wpAny_newObj_type (newEnv_comp ?_) (by show 0 ≤ sizeLine; decide)
  obtain ⟨Pv, w0, wt, wd⟩ := q g2.objs.size (I2.hok.fresh (Nat.le_refl _))
  have I3 : Inv X pins σ (upd H1 g2.objs.size (.lst [])) { s1 with heap := g2.push { cls := .type "list", data := .seq ([] : List Value).toArray } } :=
    I2.laid (t' := s1.toks) (fun b o e => Heap.get?_push_of_some _ e) (Nat.le_refl _) ⟨Nat.zero_le _, [], 0, .nil, Heap.get?_push_size _ rfl⟩
  have u3 : IsRangeIter (g2.push { cls := .type "list", data := .seq ([] : List Value).toArray }) it (((0 : Nat) : Int)) ((n : Int) - ((0 : Nat) : Int)) 1 := Heap.get?_push_of_some _ u2
  have ok3 : FpOk X pins (upd H1 g2.objs.size (.lst [])) it := ⟨by rw [upd_ne (Nat.ne_of_lt sz2)]; exact ok2.1, ok2.2⟩
  have sz3 : it < (g2.push { cls := .type "list", data := .seq ([] : List Value).toArray }).objs.size := by
    rw [Heap.size_push]
    exact Nat.lt_succ_of_lt sz2
  generalize g2.objs.size = D at *
  generalize upd H1 D (.lst []) = H3 at *
  generalize hs3 : ({ s1 with heap := g2.push { cls := .type "list", data := .seq ([] : List Value).toArray } } : Shared) = s3 at *
  have u3 : IsRangeIter s3.heap it (((0 : Nat) : Int)) ((n : Int) - ((0 : Nat) : Int)) 1 := by
    rw [← hs3]
    exact u3
  have sz3 : it < s3.heap.objs.size := by
    rw [← hs3]
    exact sz3
  have I4 := block_start I3 ok hN (fp := [it]) fun b hb => by
    rw [List.mem_singleton.mp hb]
    exact ⟨ok3, sz3⟩
  have pg := hg s3 H3 s3.heap.objs.size (cellsFrom (s3.heap.objs.size + 1) scope.names (cloFrom X.env.cells scope.names [])) [it]
  have back0 : ∀ (pins' : List (Addr × Obj)) (σ' : L2.St) (H' : Hp) (s' : Shared), Inv (X.blk s3 H3 scope (compEnvC scope (cellsFrom (s3.heap.objs.size + 1) scope.names (cloFrom X.env.cells scope.names [])) s3.heap.objs.size X.env) [it]) pins' σ' H' s' → Inv X pins σ H' s' := fun pins' σ' H' s' J => I3.call' (ch := [it]) J.os J.base J.hok J.bare fun b hb => by
    rw [List.mem_singleton.mp hb]
    exact ⟨ok3.2.2.2.1, ok3.2.1, ok3.2.2.2.2.1, ok3.2.2.2.2.2⟩
  have pe := he pins σ s3 H3 s3.heap.objs.size (cellsFrom (s3.heap.objs.size + 1) scope.names (cloFrom X.env.cells scope.names [])) [it] back0
  show codeAny _ _ (.compStart (.ListComp elt [⟨tg, .Call (.Name "range" p) [a] [] rpos, [], 0⟩] scope pos) 0 (.ref it) (.ref D) (compEnvC scope (cellsFrom (s3.heap.objs.size + 1) scope.names (cloFrom X.env.cells scope.names [])) s3.heap.objs.size X.env)) _ { s3 with heap := pushCells (s3.heap.push { cls := .type "dict", data := .dict #[] }) scope.names }
  have ceL : (compEnvC scope (cellsFrom (s3.heap.objs.size + 1) scope.names (cloFrom X.env.cells scope.names [])) s3.heap.objs.size X.env).locals = s3.heap.objs.size := rfl
  generalize compEnvC scope (cellsFrom (s3.heap.objs.size + 1) scope.names (cloFrom X.env.cells scope.names [])) s3.heap.objs.size X.env = ce at I4 pg pe ceL ⊢
  have u4 : IsRangeIter ({ s3 with heap := pushCells (s3.heap.push { cls := .type "dict", data := .dict #[] }) scope.names } : Shared).heap it (((0 : Nat) : Int)) ((n : Int) - ((0 : Nat) : Int)) 1 := pushCells_keeps _ _ _ _ (Heap.get?_push_of_some _ u3)
  generalize ({ s3 with heap := pushCells (s3.heap.push { cls := .type "dict", data := .dict #[] }) scope.names } : Shared) = s4 at I4 u4 ⊢
  -- the handled exception stands in the block, too
  have hotB : ∀ {σ' : L2.St} {H' : Hp} {s' : Shared}, Inv (X.blk s3 H3 scope ce [it]) [] σ' H' s' → HotAt X.A pe1.1 s'.heap := fun {σ' H' s'} J => by
    obtain ⟨e1, e2, _⟩ := I3.pin pe1 (List.mem_append_left _ pm)
    obtain ⟨sl, e3⟩ := J.base.any e1 e2 (by simp; exact Nat.ne_of_lt px)
    exact ⟨hh, _, v1, e3, dd, cc⟩
  have fpB : ∀ {σ' : L2.St} {H' : Hp} {s' : Shared}, Inv (X.blk s3 H3 scope ce [it]) [] σ' H' s' → H' it = none → FpOk (X.blk s3 H3 scope ce [it]) [] H' it := fun {σ' H' s'} J hn =>
    have hm : it ∈ (X.blk s3 H3 scope ce [it]).ex := List.mem_singleton.mpr rfl
    ⟨hn, (J.ok.exf it hm).1, J.ok.exfs it hm, .inl hm, fun x c e => (J.ok.exf it hm).2 x c e, fun p hp => absurd hp (by simp)⟩
  have loop : ∀ R, (∀ H' s', Inv (X.blk s3 H3 scope ce [it]) [] (wipe σ (own.map (·.2))) H' s' → Pv n H' → R (.ok .next) s') → codeAny (model X.prog X.w) X.A (.compLoop (.ListComp elt [⟨tg, .Call (.Name "range" p) [a] [] rpos, [], 0⟩] scope pos) 0 (.ref it) (.ref D) ce) R s4 := fun R fin => by
    refine compLoop_any (fun m s' => ∃ i H', m = n - i ∧ i ≤ n ∧ Inv (X.blk s3 H3 scope ce [it]) [] (wipe σ (own.map (·.2))) H' s' ∧ IsRangeIter s'.heap it ((i : Nat) : Int) ((n : Int) - ((i : Nat) : Int)) 1 ∧ H' it = none ∧ Pv i H') ?_ n ⟨0, H3, rfl, Nat.zero_le _, I4, u4, ok3.1, w0⟩
    rintro m s5 ⟨i, H5, rfl, hle, I5, u5, n5, w5⟩
    have f5 := fpB I5 n5
    obtain ⟨f50, f51, f52, f53, f54, f55⟩ := f5
    by_cases hlt : i < n
    · refine wpAny_pyNext_range_item u5 (by omega) fun h6 u6 sb => ?_
      have I6 : Inv (X.blk s3 H3 scope ce [it]) [] (wipe σ (own.map (·.2))) H5 { s5 with heap := h6, toks := s5.toks + 1 } := I5.turned (fun b o hb e => (sb.2 b hb).trans e) f50 f51 f53 f54 f55
      have u6 : IsRangeIter h6 it ((i : Int) + 1) ((n : Int) - ((i : Int) + 1)) 1 := by
        have e2 : (n : Int) - ((i : Nat) : Int) - 1 = (n : Int) - ((i : Int) + 1) := by omega
        rw [← e2]
        exact u6
      refine go_of (s := { s5 with heap := h6, toks := s5.toks + 1 }) (n := "range_iterator") u6 rfl rfl (by decide) ?_
      have I7 := I6.pinned (fp := [it]) (fun b hb => by
        rw [List.mem_singleton.mp hb]
        exact fpB I6 n5) (fun b hb => by
        rw [List.mem_singleton.mp hb]
        exact ⟨_, u6, fun v z => by
          have z' : Data.fields _ = Data.cell v := z
          cases z'⟩)
      refine thnF (pg.run _ { s5 with heap := h6, toks := s5.toks + 1 } _ H5 (.int (i : Int)) (.int (i : Int) s5.toks) _ I7 ⟨s5.toks, rfl⟩ (wt i H5 hlt w5)) fun _ s8 ⟨σ8, H8, I8, hw8, q8⟩ => ?_
      refine thnF ((pts_nil (X := X.blk s3 H3 scope ce [it])).run _ s8 σ8 H8 (fun b H9 => b = true ∧ H9 = H8) I8 ⟨rfl, rfl⟩) fun b s9 ⟨H9, I9, eb, eH⟩ => ?_
      subst eb eH
      simp only [if_true]
      refine thnF (pe.run _ s9 σ8 H9 _ I9 q8) fun z s10 ⟨yv, H10, I10, r10, acc, hD, hz, nx⟩ => ?_
      refine app_ok (X := X.blk s3 H3 scope ce [it]) I10 hD hz r10 fun s11 I11 => ?_
      obtain ⟨k1, k2, _⟩ := I11.pin (it, _) (List.mem_append_right _ (List.mem_append_right _ (mem_pinsAt (List.mem_singleton.mpr rfl) u6)))
      have ll : (wipe σ (own.map (·.2))).length = σ8.length := by rw [← hw8, wipe_length]
      refine ⟨n - (i + 1), by omega, i + 1, _, rfl, hlt, (I11.unpinned (pins := [])).weak ll (fun j v e => ?_), k1, k2, nx⟩
      rw [← hw8] at e
      exact (wipe_some e).1
    · have e : i = n := by omega
      subst e
      refine HotX.pyNext_range_end_hot (hotB I5) u5 (by omega) fun h6 k => ?_
      exact fin H5 _ (I5.turned (t' := s5.toks) (fun b o _ e => k b o e) f50 f51 f53 f54 f55) w5
  refine codeAny_compStart_list ?_ (wpAny_pyIter_rangeiter u4 ?_)
  all_goals
    refine loop _ fun H' s' J w => ?_
    have back : Inv X pins σ H' s' := I3.call' (ch := [it]) J.os J.base J.hok J.bare fun b hb => by
      rw [List.mem_singleton.mp hb]
      exact ⟨ok3.2.2.2.1, ok3.2.1, ok3.2.2.2.2.1, ok3.2.2.2.2.2⟩
    obtain ⟨m, hn, _⟩ := J.loc
    have hn : s'.heap.Ns ce.locals m := hn
    have nC : H' ce.locals = none := J.free
    rw [ceL] at hn nC
    obtain ⟨f0, f1, f2, f3, f4, f5⟩ := I3.fpOk (Nat.le_refl _) nC
    exact ⟨m, hn, fun h2 sb => ⟨.ref D, H', back.turned (t' := s'.toks) (fun b o hb e => (sb.2 b hb).trans e) f0 f1 f3 f4 f5, rfl, wd H' w⟩⟩
end
/-! ### a def called while an exception is handled, the exception not among its arguments -/
def HasH (P : Program) (w : World) (K : PySem.W.Frag) (mg : Str → Option Value) (base : Heap) (k : Nat) (x : Str) (ps : List Str) (sp : Sp) : Prop :=
  ∃ f fd, mg x = some (.ref f) ∧ PySem.W.keepIn K (.ref f) = true ∧ L2H.FnH P w K mg base CX0 k f fd ps sp ∧ L2.Binds K fd ps []
theorem hasH_of {P : Program} {w : World} {K : PySem.W.Frag} {mg : Str → Option Value} {base : Heap} {x : Str} {st : Stmt} {N ps : List Str} {k : Nat} {sp : Sp} (D : IsDef K mg x st) (S : FnScope N ps (defScope st)) (B : Takes0 x x st ps) (len : ∀ vs H Q E, sp vs H Q E → vs.length = ps.length)
    (body : ∀ (f : Addr) (cdv : Value) (A : Around) (outer : List Env) (s : Shared) (H : Hp) (vs : List V) (Q : VK) (E : XK) (p : Addr × Obj), L2H.Hot1 A p → L2H.RoomH k (A.deeper (envOfC x (defScope st) s.heap.objs.size f cdv)) → sp vs H Q E →
      ∃ t, PSs (L2H.cxH CX0 P w K mg base N x (defScope st) f cdv A outer s H E p) (defBody st) t ∧ t { nx := fun _ H' => Q .non H', rt := Q } (L2.start N vs) H) : HasH P w K mg base (k + 1) x ps sp := by
  obtain ⟨f, fd, F, g⟩ := D
  refine ⟨f, fd, g, F.kp, ?_, F.bindsN B⟩
  obtain ⟨oc, od, dV, kV, doc, pm, an, cdv, ct, osl, rfl, lk, hcd, _, _⟩ := F.ex
  exact L2H.fn_ofH lk hcd S len fun A outer s H vs Q E p hot hr hsp => body f cdv A outer s H vs Q E p hot hr hsp
section
variable {X : Cx} {x : Str} {q pos : Pos} {e : Expr} {es : List Expr} {t : TA} {k j : Nat} {ps : List Str} {sp : Sp}
theorem pe_hasH (h : HasH X.prog X.w X.K X.mg X.base k x ps sp) (hr : L2H.RoomH j X.A) (l : k ≤ j) (hc : L2H.HotC X) (hg : Gl X x) (ha : PA X (e :: es) t)
    (hdb : (x == ("__debug__" : Str)) = false := by decide) (he : starEach (e :: es) X.env = (false, eval e X.env) :: starEach es X.env := by rfl) (hpl : (backTo pos (starEach es X.env)).any (·.1) = false := by rfl) :
    PE X (.Call (.Name x q) (e :: es) [] pos) (tHas sp t) := by
  obtain ⟨f, fd, hm, hk, F, hb⟩ := h
  exact L2H.pe_callH (E := fun _ => E0) F (hr.mono l) hc hg hm hk hb (fun σ pins H s e s' I c => c.elim) ha hdb he hpl
/-- the same within a comprehension -/
theorem pe_hasHB {pins : List (Addr × Obj)} {σ : L2.St} {s0 : Shared} {H0 : Hp} {scope : Scope} {cenv : Env} {fp : List Addr} (h : HasH X.prog X.w X.K X.mg X.base k x ps sp) (hr : L2H.RoomH j X.A) (l : k ≤ j) (hc : L2H.HotC X)
    (back : ∀ (pins' : List (Addr × Obj)) (σ' : L2.St) (H' : Hp) (s' : Shared), Inv (X.blk s0 H0 scope cenv fp) pins' σ' H' s' → Inv X pins σ H' s') (hg : Gl (X.blk s0 H0 scope cenv fp) x) (ha : PA (X.blk s0 H0 scope cenv fp) (e :: es) t)
    (hdb : (x == ("__debug__" : Str)) = false := by decide) (he : starEach (e :: es) cenv = (false, eval e cenv) :: starEach es cenv := by rfl) (hpl : (backTo pos (starEach es cenv)).any (·.1) = false := by rfl) :
    PE (X.blk s0 H0 scope cenv fp) (.Call (.Name x q) (e :: es) [] pos) (tHas sp t) := by
  obtain ⟨f, fd, hm, hk, F, hb⟩ := h
  refine ⟨fun pinsB sB τ G Q J w => ?_⟩
  refine wpAny_Call_Name_kw (ld_glob J hg hm ?_ hdb)
  refine PySem.W.callWith_K (h₀ := X.base) J.ok.mod.kin hk (thn (ha.run pos pinsB sB τ G _ J w) fun us s1 ⟨vs, H1, I1, r, y⟩ => ⟨I1.kIn, ?_⟩) he hpl
  obtain ⟨p, hot, hp⟩ := hc
  have I2 := back _ _ _ _ I1
  have hl : us.length = ps.length := by
    rw [← r.length]
    exact F.len _ _ _ _ y
  have b := hb s1 us I1.kIn (by rw [List.append_nil]; exact hl)
  rw [List.append_nil] at b
  have P1 := I2.pin p (List.mem_append_left _ hp)
  have hpin : L2H.PinOk X.stack H1 s1 p := ⟨P1.1, P1.2.1, fun hm => (List.mem_cons.mp (I2.stkSub p.1 hm)).elim P1.2.2.1 P1.2.2.2.1, P1.2.2.2.2⟩
  refine wpAny_call (codeAny_mono (F.run X.A X.stack s1 H1 ⟨us, []⟩ us vs Q E0 p (hr.mono l) hot hpin I1.env0 b r y) fun r s' hq => ?_)
  cases r with
  | error e => exact hq.elim
  | ok fl =>
    cases fl with
    | ret u => exact I1.after hq
    | next => exact hq.elim
    | brk => exact hq.elim
    | cont => exact hq.elim
end
end DR

set_option Elab.async false
set_option linter.all false
set_option maxRecDepth 100000
set_option maxHeartbeats 4000000
/-! ### all([..]) while an exception is handled -/
namespace DR
open PySem PySem.W PySem.Spec PyProof.Rows L2
open HotX (HotAt raiseNew_hot)
theorem HotAt.keep {A : Around} {x1 : Addr} {h h' : Heap} (x : HotAt A x1 h) (k : ∀ o, h.get? x1 = some o → h'.get? x1 = some o) : HotAt A x1 h' := by
  obtain ⟨hh, o, vs, h1, h2, h3⟩ := x
  exact ⟨hh, o, vs, k o h1, h2, h3⟩
theorem walks_hot {prog : Program} {w : World} {A : Around} (I ax x1 : Addr) (hne : ax ≠ I) (items : Array Value) :
    Walks prog w A I [I, ax, x1] [I] items.size (fun i v => items[i]? = some v) (fun i h => h.IsListIter I ax i ∧ h.IsList ax items ∧ HotAt A x1 h) where
  sub := fun b hb => by simp at hb; simp [hb]
  frame := fun _ _ _ st hk => ⟨st.1.at fun o e => hk I (by simp) o e, st.2.1.at fun o e => hk ax (by simp) o e, HotAt.keep st.2.2 fun o e => hk x1 (by simp) o e⟩
  item := fun i s Q E hi st hQ => by
    refine wpAny_pyNext_list_item st.1 st.2.1 (x := items[i]) (by simp [hi]) fun h' hit' hs' => ?_
    have ne := hot_ne st.2.2 st.1
    exact hQ _ h' s.toks (by simp [hi]) ⟨hit', st.2.1.extBut hs'.extBut hne, HotAt.keep st.2.2 fun o e => hs'.extBut x1 o ne e⟩ fun b o hb e => hs'.extBut b o (fun h => hb (by simp [h])) e
  done := fun s Q E st hQ => list_end_hot st.2.2 st.1 st.2.1 (by simp) fun h' he' => hQ h' s.toks fun b o hb e => he' b o (fun h => hb (by simp [h])) e
  self := fun _ _ _ _ st hQ => wpAny_pyIter_listiter st.1 hQ
section
variable {X : Cx}
theorem cr_allHot (hot : L2H.HotC X) : CallR X (.builtin "all") (rAll X.K) := by
  intro pins s σ H vs us Q I r h
  obtain ⟨a, bs, rfl, hs, q⟩ := h
  obtain ⟨its, rv, hl, _⟩ := I.list hs
  rw [Vals.ref1 r]
  have hb := rv.bls
  obtain ⟨pe1, ⟨hh, v1, dd, cc⟩, pm⟩ := hot
  have g1 := (I.pin pe1 (List.mem_append_left _ pm)).1
  refine call_all_walk (iter_any hl.isList fun s₂ e2 st hne => ?_)
  subst e2
  refine ⟨_, _, _, _, _, _, _, rfl, walks_hot (A := X.A.in1) _ a pe1.1 hne its.toArray, ⟨st.1, st.2, hh, _, v1, Heap.get?_push_of_some _ g1, dd, cc⟩, truth_bools hb, fun h' tk hk => ?_⟩
  refine ⟨.bl _, H, I.kept fun b o eo => hk b o (fun hmem => ?_) (Heap.get?_push_of_some _ eo), ?_, q⟩
  · rcases List.mem_cons.mp hmem with e1 | hmem
    · exact absurd (e1 ▸ Heap.lt_size eo) (Nat.lt_irrefl _)
    · cases hmem
  · show Value.bool _ = Value.bool _
    rw [← L2.all_range, hb, List.size_toArray, List.length_map]
end
end DR

set_option Elab.async false
set_option linter.all false
set_option maxRecDepth 100000
set_option maxHeartbeats 4000000
namespace DR
open PySem PySem.Spec PyProof.Rows L2
/-- two values that read alike, to depth n -/
inductive Ak (H : Hp) : Nat → V → V → Prop
  | non (n : Nat) : Ak H (n + 1) .non .non
  | bl (n : Nat) (b : Bool) : Ak H (n + 1) (.bl b) (.bl b)
  | int (n : Nat) (i : Int) : Ak H (n + 1) (.int i) (.int i)
  | str (n : Nat) (s : Str) : Ak H (n + 1) (.str s) (.str s)
  | lst {n : Nat} {a b : Addr} {xs ys : List V} (ha : H a = some (.lst xs)) (hb : H b = some (.lst ys)) (hl : xs.length = ys.length) (few : xs.length ≤ 1000) (h : ∀ (i : Nat) (x y : V), xs[i]? = some x → ys[i]? = some y → Ak H n x y) : Ak H (n + 1) (.ref a) (.ref b)
  | tup {n : Nat} {a b : Addr} {xs ys : List V} (ha : H a = some (.tup xs)) (hb : H b = some (.tup ys)) (hl : xs.length = ys.length) (few : xs.length ≤ 1000) (h : ∀ (i : Nat) (x y : V), xs[i]? = some x → ys[i]? = some y → Ak H n x y) : Ak H (n + 1) (.ref a) (.ref b)
theorem Ak.same {H H' : Hp} (s : Same H H') : ∀ {n : Nat} {x y : V}, Ak H n x y → Ak H' n x y := by
  intro n x y h
  induction h with
  | non n => exact .non n
  | bl n b => exact .bl n b
  | int n i => exact .int n i
  | str n i => exact .str n i
  | lst ha hb hl few h ih => exact .lst (s _ _ ha) (s _ _ hb) hl few ih
  | tup ha hb hl few h ih => exact .tup (s _ _ ha) (s _ _ hb) hl few ih
theorem Ak.up {H : Hp} : ∀ {n : Nat} {x y : V}, Ak H n x y → Ak H (n + 1) x y := by
  intro n x y h
  induction h with
  | non n => exact .non _
  | bl n b => exact .bl _ b
  | int n i => exact .int _ i
  | str n i => exact .str _ i
  | lst ha hb hl few h ih => exact .lst ha hb hl few ih
  | tup ha hb hl few h ih => exact .tup ha hb hl few ih
def spAlike (n : Nat) : Sp := fun vs H Q _ => ∃ x y : V, vs = [x, y] ∧ Ak H n x y ∧ ∀ H', Same H H' → Q (.bl true) H'
section
variable {P : Program} {w : World} {K : PySem.W.Frag} {mg : Str → Option Value} {base : Heap}
abbrev nAlike : List Str := ["_law_found", "_law_due", "_law_name", "_law_k"]
theorem scAlike : FnScope nAlike ["_law_found", "_law_due"] (defScope s__law_alike) := ⟨rfl, rfl, rfl, by decide +kernel, rfl, by decide +kernel, by decide +kernel⟩
/-- a list or a tuple of these stands there -/
abbrev Row (H : Hp) (a : Addr) (xs : List V) : Prop := H a = some (.lst xs) ∨ H a = some (.tup xs)
theorem Row.ix {H : Hp} {a : Addr} {xs : List V} (h : Row H a xs) {i : Nat} {x : V} (e : xs[i]? = some x) {Q : VK} (q : Q x H) : rIx K (.ref a) (.int (0 + (i : Int))) H Q := by
  rw [Int.zero_add]
  rcases h with h | h
  · exact .inl ⟨a, xs, _, x, rfl, rfl, SqL.of h, atI_nat e, q⟩
  · exact .inr (.inl ⟨a, xs, _, x, rfl, rfl, SqT.of h, atI_nat e, q⟩)
theorem alikeEnd {n : Nat} {a b : Addr} {xs ys : List V} {H : Hp} {Q : VK} (rows : ∀ H', Same H H' → Row H' a xs ∧ Row H' b ys) (hl : xs.length = ys.length) (few : xs.length ≤ 1000) (hx : ∀ (i : Nat) (x y : V), xs[i]? = some x → ys[i]? = some y → Ak H n x y) (q : ∀ H', Same H H' → Q (.bl true) H') :
    tRet (tCB (rAll K) (tCons (tLc (iRng1 (tCons (tCB (fun xs H Q => ∃ p ys, xs = [.ref p] ∧ (SqL K H p ys ∨ SqT K H p ys) ∧ Q (.int ys.length) H) (tCons (tVar 1) tNil)) tNil)) (gName 3) tYes (tHas (spAlike n) (tCons (tOp (rIx K) (tVar 0) (tVar 3)) (tCons (tOp (rIx K) (tVar 1) (tVar 3)) tNil))) [3]) tNil))
      { nx := fun _ H' => Q .non H', rt := Q } [some (.ref a), some (.ref b), none, none] H := by
  have hb : SqL K H b ys ∨ SqT K H b ys := by
    rcases (rows H (Same.refl H)).2 with h | h
    · exact .inl (SqL.of h)
    · exact .inr (SqT.of h)
  refine ⟨_, rfl, _, _, rfl, hb, (ys.length : Int), rfl, by omega, by omega, fun D nD => ?_⟩
  rw [Int.toNat_natCast]
  refine lc_range (lo := 0) (n := ys.length) (fun j H2 => Kp D H H2 ∧ H2 D = some (.lst ((List.replicate j true).map V.bl))) ⟨Kp.put _ _ _, upd_same⟩ ?_ ?_
  · rintro i H2 hi ⟨kp, eD⟩
    have s2 : Same H H2 := fun c o e => kp c o (ne_of_none e nD) e
    have hxi : i < xs.length := by omega
    obtain ⟨r1, r2⟩ := rows H2 s2
    refine ⟨rfl, _, rfl, _, rfl, Row.ix r1 (List.getElem?_eq_getElem hxi) ?_⟩
    refine ⟨_, rfl, _, rfl, Row.ix r2 (List.getElem?_eq_getElem hi) ?_⟩
    refine ⟨_, _, rfl, (hx i _ _ (List.getElem?_eq_getElem hxi) (List.getElem?_eq_getElem hi)).same s2, fun H3 s3 => ?_⟩
    refine ⟨_, s3 _ _ eD, ?_, fun c o nc e => ?_, ?_⟩
    · simp
      exact small1000 (by omega)
    · rw [upd_ne nc]
      exact s3 _ _ (kp c o nc e)
    · rw [upd_same]
      simp [List.replicate_succ']
  · rintro H2 ⟨kp, eD⟩
    refine ⟨D, _, rfl, SqL.of eD, ?_⟩
    have e : (List.replicate ys.length true).all id = true := by
      simp
    rw [e]
    exact q H2 fun c o h => kp c o (ne_of_none h nD) h
theorem alike0 (D : IsDef K mg "_law_alike" s__law_alike) : Has P w K mg base 1 "_law_alike" ["_law_found", "_law_due"] (spAlike 0) := by
  refine has_of D scAlike (fun _ _ _ _ _ _ us hl => match us, hl with | [_, _], _ => rfl) (fun vs H Q E h => ?_) (fun f cdv A outer s H vs Q E hr h => ?_)
  · obtain ⟨x, y, rfl, _⟩ := h
    rfl
  · obtain ⟨x, y, rfl, a, _⟩ := h
    cases a
theorem alike1 {k n : Nat} (D : IsDef K mg "_law_alike" s__law_alike) (B : Blt mg) (R : Has P w K mg base k "_law_alike" ["_law_found", "_law_due"] (spAlike n)) : Has P w K mg base (k + 1) "_law_alike" ["_law_found", "_law_due"] (spAlike (n + 1)) := by
  refine has_of D scAlike (fun _ _ _ _ _ _ us hl => match us, hl with | [_, _], _ => rfl) (fun vs H Q E h => ?_) (fun f cdv A outer s H vs Q E hr h => ?_)
  · obtain ⟨x, y, rfl, _⟩ := h
    rfl
  · obtain ⟨x, y, rfl, a, q⟩ := h
    refine ⟨_, pss_cons (ps_if (pt_cmp (pc_isN (pv 1)) rfl) (pss_one (ps_ret (pe_cmp (pc_isN (pv 0)) rfl))) pss_nil)
      (pss_cons (ps_if (pt_val (pe_callB call_isi (by rfl) B.isinstance (by decide +kernel) (pa_cons (pv 1) (pa_cons (pe_bltn (v := .ty "bool") (by rfl) B.bool (by decide +kernel) rfl) pa_nil)))) (pss_one (ps_ret (pe_and (pe_callB call_isi (by rfl) B.isinstance (by decide +kernel) (pa_cons (pv 0) (pa_cons (pe_bltn (v := .ty "bool") (by rfl) B.bool (by decide +kernel) rfl) pa_nil))) (pe_one (pe_cmpR op_eq (pv 0) (pv 1) (nomark _)))))) pss_nil)
      (pss_cons (ps_if (pt_val (pe_callB call_isi (by rfl) B.isinstance (by decide +kernel) (pa_cons (pv 1) (pa_cons (pe_bltn (v := .ty "int") (by rfl) B.int (by decide +kernel) rfl) pa_nil)))) (pss_one (ps_ret (pe_and (pe_callB call_isi (by rfl) B.isinstance (by decide +kernel) (pa_cons (pv 0) (pa_cons (pe_bltn (v := .ty "int") (by rfl) B.int (by decide +kernel) rfl) pa_nil))) (pe_and (pe_not (pe_callB call_isi (by rfl) B.isinstance (by decide +kernel) (pa_cons (pv 0) (pa_cons (pe_bltn (v := .ty "bool") (by rfl) B.bool (by decide +kernel) rfl) pa_nil)))) (pe_one (pe_cmpR op_eq (pv 0) (pv 1) (nomark _))))))) pss_nil)
      (pss_cons (ps_if (pt_val (pe_callB call_isi (by rfl) B.isinstance (by decide +kernel) (pa_cons (pv 1) (pa_cons (pe_bltn (v := .ty "str") (by rfl) B.str (by decide +kernel) rfl) pa_nil)))) (pss_one (ps_ret (pe_and (pe_callB call_isi (by rfl) B.isinstance (by decide +kernel) (pa_cons (pv 0) (pa_cons (pe_bltn (v := .ty "str") (by rfl) B.str (by decide +kernel) rfl) pa_nil))) (pe_one (pe_cmpR op_eq (pv 0) (pv 1) (nomark _)))))) pss_nil)
      (pss_cons (ps_if (pt_val (pe_callB call_isi (by rfl) B.isinstance (by decide +kernel) (pa_cons (pv 1) (pa_cons (pe_bltn (v := .ty "dict") (by rfl) B.dict (by decide +kernel) rfl) pa_nil)))) pss_never pss_nil)
      (pss_cons (ps_if (PW.pt (pw_or (pt_cmpR op_ne (pe_callB call_isi (by rfl) B.isinstance (by decide +kernel) (pa_cons (pv 1) (pa_cons (pe_bltn (v := .ty "tuple") (by rfl) B.tuple (by decide +kernel) rfl) pa_nil))) (pe_callB call_isi (by rfl) B.isinstance (by decide +kernel) (pa_cons (pv 0) (pa_cons (pe_bltn (v := .ty "tuple") (by rfl) B.tuple (by decide +kernel) rfl) pa_nil))) (nomark _))
          (pw_or1 (pt_cmpR op_ne (pe_callB call_isi (by rfl) B.isinstance (by decide +kernel) (pa_cons (pv 1) (pa_cons (pe_bltn (v := .ty "list") (by rfl) B.list (by decide +kernel) rfl) pa_nil))) (pe_callB call_isi (by rfl) B.isinstance (by decide +kernel) (pa_cons (pv 0) (pa_cons (pe_bltn (v := .ty "list") (by rfl) B.list (by decide +kernel) rfl) pa_nil))) (nomark _))))) (pss_one (ps_ret pe_bl)) pss_nil)
      (pss_cons (ps_if (pt_cmpR op_ne (pe_callB call_len_seq (by rfl) B.len PySem.boot_len (pa_cons (pv 0) pa_nil)) (pe_callB call_len_seq (by rfl) B.len PySem.boot_len (pa_cons (pv 1) pa_nil)) (nomark _)) (pss_one (ps_ret pe_bl)) pss_nil)
      (pss_one (ps_ret (pe_callB (cr_all rfl) (by rfl) B.all (by decide +kernel) (pa_cons (pe_lc (own := [("_law_k", 3)]) (g := gName 3) (tt := tYes) (by rfl) scAlike.nd (pi_range1 (by rfl) B.range (pa_cons (pe_callB call_len_seq (by rfl) B.len PySem.boot_len (pa_cons (pv 1) pa_nil)) pa_nil)) (blkOk_by (N := nAlike) (sc := defScope s__law_alike) (by decide +kernel)) (fun _ _ _ _ _ => pg_name (i := 3) scAlike.nd rfl (.inl rfl)) (fun _ _ _ _ _ => pts_nil)
          (fun _ _ _ _ _ => pe_has R hr (Nat.le_refl _) (by rfl) (pa_cons (pe_ix (r := rIx K) ix_seq (pv 0) (pv 3) (fun _ _ => rfl)) (pa_cons (pe_ix (r := rIx K) ix_seq (pv 1) (pv 3) (fun _ _ => rfl)) pa_nil)))) pa_nil)))))))))), ?_⟩
    cases a with
    | non => exact ⟨_, rfl, _, rfl, iteT ⟨_, rfl, q H (Same.refl H)⟩⟩
    | bl b =>
      refine ⟨_, rfl, _, rfl, iteF ?_⟩
      refine ⟨_, rfl, _, _, _, _, true, rfl, .ty _, .base (.bl _), kit_ty (by decide +kernel), _, rfl, iteT ?_⟩
      refine ⟨_, rfl, _, _, _, _, true, rfl, .ty _, .base (.bl _), kit_ty (by decide +kernel), _, rfl, iteT ?_⟩
      refine ⟨_, rfl, _, rfl, rfl, ?_⟩
      rw [decide_eq_true rfl]
      exact q H (Same.refl H)
    | int i =>
      refine ⟨_, rfl, _, rfl, iteF ?_⟩
      refine ⟨_, rfl, _, _, _, _, false, rfl, .ty _, .base (.int _), kit_ty (by decide +kernel), _, rfl, iteF ?_⟩
      refine ⟨_, rfl, _, _, _, _, true, rfl, .ty _, .base (.int _), kit_ty (by decide +kernel), _, rfl, iteT ?_⟩
      refine ⟨_, rfl, _, _, _, _, true, rfl, .ty _, .base (.int _), kit_ty (by decide +kernel), _, rfl, iteT ?_⟩
      refine ⟨_, rfl, _, _, _, _, false, rfl, .ty _, .base (.int _), kit_ty (by decide +kernel), _, rfl, _, rfl, iteT ?_⟩
      refine ⟨_, rfl, _, rfl, rfl, ?_⟩
      rw [decide_eq_true rfl]
      exact q H (Same.refl H)
    | str i =>
      refine ⟨_, rfl, _, rfl, iteF ?_⟩
      refine ⟨_, rfl, _, _, _, _, false, rfl, .ty _, .base (.str _), kit_ty (by decide +kernel), _, rfl, iteF ?_⟩
      refine ⟨_, rfl, _, _, _, _, false, rfl, .ty _, .base (.str _), kit_ty (by decide +kernel), _, rfl, iteF ?_⟩
      refine ⟨_, rfl, _, _, _, _, true, rfl, .ty _, .base (.str _), kit_ty (by decide +kernel), _, rfl, iteT ?_⟩
      refine ⟨_, rfl, _, _, _, _, true, rfl, .ty _, .base (.str _), kit_ty (by decide +kernel), _, rfl, iteT ?_⟩
      refine ⟨_, rfl, _, rfl, rfl, ?_⟩
      rw [decide_eq_true rfl]
      exact q H (Same.refl H)
    | @lst _ a b xs ys ha hb hl few hx =>
      refine ⟨_, rfl, _, rfl, iteF ?_⟩
      refine ⟨_, rfl, _, _, _, _, false, rfl, .ty _, .base (.lst hb), kit_ty (by decide +kernel), _, rfl, iteF ?_⟩
      refine ⟨_, rfl, _, _, _, _, false, rfl, .ty _, .base (.lst hb), kit_ty (by decide +kernel), _, rfl, iteF ?_⟩
      refine ⟨_, rfl, _, _, _, _, false, rfl, .ty _, .base (.lst hb), kit_ty (by decide +kernel), _, rfl, iteF ?_⟩
      refine ⟨_, rfl, _, _, _, _, false, rfl, .ty _, .base (.lst hb), kit_ty (by decide +kernel), _, rfl, iteF ?_⟩
      refine ⟨_, rfl, _, _, _, _, false, rfl, .ty _, .base (.lst hb), kit_ty (by decide +kernel), _, rfl, _, _, _, _, false, rfl, .ty _, .base (.lst ha), kit_ty (by decide +kernel), rfl, _, rfl, iteNS rfl ?_⟩
      refine ⟨_, rfl, _, _, _, _, true, rfl, .ty _, .base (.lst hb), kit_ty (by decide +kernel), _, rfl, _, _, _, _, true, rfl, .ty _, .base (.lst ha), kit_ty (by decide +kernel), rfl, _, rfl, iteNS rfl ?_⟩
      refine ⟨_, rfl, _, _, rfl, .inl (SqL.of ha), _, rfl, _, _, rfl, .inl (SqL.of hb), rfl, _, rfl, iteNS (by rw [hl]) ?_⟩
      exact alikeEnd (fun H' s => ⟨.inl (s _ _ ha), .inl (s _ _ hb)⟩) hl few hx q
    | @tup _ a b xs ys ha hb hl few hx =>
      refine ⟨_, rfl, _, rfl, iteF ?_⟩
      refine ⟨_, rfl, _, _, _, _, false, rfl, .ty _, .base (.tup hb), kit_ty (by decide +kernel), _, rfl, iteF ?_⟩
      refine ⟨_, rfl, _, _, _, _, false, rfl, .ty _, .base (.tup hb), kit_ty (by decide +kernel), _, rfl, iteF ?_⟩
      refine ⟨_, rfl, _, _, _, _, false, rfl, .ty _, .base (.tup hb), kit_ty (by decide +kernel), _, rfl, iteF ?_⟩
      refine ⟨_, rfl, _, _, _, _, false, rfl, .ty _, .base (.tup hb), kit_ty (by decide +kernel), _, rfl, iteF ?_⟩
      refine ⟨_, rfl, _, _, _, _, true, rfl, .ty _, .base (.tup hb), kit_ty (by decide +kernel), _, rfl, _, _, _, _, true, rfl, .ty _, .base (.tup ha), kit_ty (by decide +kernel), rfl, _, rfl, iteNS rfl ?_⟩
      refine ⟨_, rfl, _, _, _, _, false, rfl, .ty _, .base (.tup hb), kit_ty (by decide +kernel), _, rfl, _, _, _, _, false, rfl, .ty _, .base (.tup ha), kit_ty (by decide +kernel), rfl, _, rfl, iteNS rfl ?_⟩
      refine ⟨_, rfl, _, _, rfl, .inr (SqT.of ha), _, rfl, _, _, rfl, .inr (SqT.of hb), rfl, _, rfl, iteNS (by rw [hl]) ?_⟩
      exact alikeEnd (fun H' s => ⟨.inr (s _ _ ha), .inr (s _ _ hb)⟩) hl few hx q
theorem alike_all (D : IsDef K mg "_law_alike" s__law_alike) (B : Blt mg) : ∀ n : Nat, Has P w K mg base (n + 1) "_law_alike" ["_law_found", "_law_due"] (spAlike n)
  | 0 => alike0 D
  | n + 1 => alike1 D B (alike_all D B n)
end
end DR

set_option Elab.async false
set_option linter.all false
set_option maxRecDepth 100000
set_option maxHeartbeats 4000000
/-! ### _law_alike while an exception is handled -/
namespace DR
open PySem PySem.Spec PyProof.Rows L2
section
variable {P : Program} {w : World} {K : PySem.W.Frag} {mg : Str → Option Value} {base : Heap}
theorem Row.ix0 {H : Hp} {a : Addr} {xs : List V} (h : Row H a xs) {i : Nat} {x : V} (e : xs[i]? = some x) {Q : VK} (q : Q x H) : rIx K (.ref a) (.int (i : Int)) H Q := by
  have z := Row.ix (K := K) h e q
  rw [Int.zero_add] at z
  exact z
theorem alikeEndH {n : Nat} {a b : Addr} {xs ys : List V} {H : Hp} {Q : VK} (rows : ∀ H', Same H H' → Row H' a xs ∧ Row H' b ys) (hl : xs.length = ys.length) (few : xs.length ≤ 1000) (hx : ∀ (i : Nat) (x y : V), xs[i]? = some x → ys[i]? = some y → Ak H n x y) (q : ∀ H', Same H H' → Q (.bl true) H') :
    tRet (tCB (rAll K) (tCons (tLcHotR (tCons (tCB (fun xs H Q => ∃ p ys, xs = [.ref p] ∧ (SqL K H p ys ∨ SqT K H p ys) ∧ Q (.int ys.length) H) (tCons (tVar 1) tNil)) tNil) (gName 3) (tHas (spAlike n) (tCons (tOp (rIx K) (tVar 0) (tVar 3)) (tCons (tOp (rIx K) (tVar 1) (tVar 3)) tNil))) [3]) tNil))
      { nx := fun _ H' => Q .non H', rt := Q } [some (.ref a), some (.ref b), none, none] H := by
  have hb : SqL K H b ys ∨ SqT K H b ys := by
    rcases (rows H (Same.refl H)).2 with h | h
    · exact .inl (SqL.of h)
    · exact .inr (SqT.of h)
  refine ⟨_, rfl, _, _, rfl, hb, ys.length, rfl, by omega, fun D nD => ?_⟩
  refine ⟨fun j H2 => Kp D H H2 ∧ H2 D = some (.lst ((List.replicate j true).map V.bl)), ⟨Kp.put _ _ _, upd_same⟩, ?_, ?_⟩
  · rintro i H2 hi ⟨kp, eD⟩
    have s2 : Same H H2 := fun c o e => kp c o (ne_of_none e nD) e
    have hxi : i < xs.length := by omega
    obtain ⟨r1, r2⟩ := rows H2 s2
    refine ⟨rfl, _, rfl, _, rfl, Row.ix0 r1 (List.getElem?_eq_getElem hxi) ?_⟩
    refine ⟨_, rfl, _, rfl, Row.ix0 r2 (List.getElem?_eq_getElem hi) ?_⟩
    refine ⟨_, _, rfl, (hx i _ _ (List.getElem?_eq_getElem hxi) (List.getElem?_eq_getElem hi)).same s2, fun H3 s3 => ?_⟩
    refine ⟨_, s3 _ _ eD, ?_, fun c o nc e => ?_, ?_⟩
    · simp
      exact small1000 (by omega)
    · rw [upd_ne nc]
      exact s3 _ _ (kp c o nc e)
    · rw [upd_same]
      simp [List.replicate_succ']
  · rintro H2 ⟨kp, eD⟩
    refine ⟨D, _, rfl, SqL.of eD, ?_⟩
    have e : (List.replicate ys.length true).all id = true := by
      simp
    rw [e]
    exact q H2 fun c o h => kp c o (ne_of_none h nD) h
theorem alikeH0 (D : IsDef K mg "_law_alike" s__law_alike) : HasH P w K mg base 1 "_law_alike" ["_law_found", "_law_due"] (spAlike 0) := by
  refine hasH_of D scAlike (fun _ _ _ _ _ _ us hl => match us, hl with | [_, _], _ => rfl) (fun vs H Q E h => ?_) (fun f cdv A outer s H vs Q E p hot hr h => ?_)
  · obtain ⟨x, y, rfl, _⟩ := h
    rfl
  · obtain ⟨x, y, rfl, a, _⟩ := h
    cases a
theorem alikeH1 {k n : Nat} (D : IsDef K mg "_law_alike" s__law_alike) (B : Blt mg) (R : HasH P w K mg base k "_law_alike" ["_law_found", "_law_due"] (spAlike n)) : HasH P w K mg base (k + 1) "_law_alike" ["_law_found", "_law_due"] (spAlike (n + 1)) := by
  refine hasH_of D scAlike (fun _ _ _ _ _ _ us hl => match us, hl with | [_, _], _ => rfl) (fun vs H Q E h => ?_) (fun f cdv A outer s H vs Q E p hot hr h => ?_)
  · obtain ⟨x, y, rfl, _⟩ := h
    rfl
  · obtain ⟨x, y, rfl, a, q⟩ := h
    have hc : L2H.HotC (L2H.cxH CX0 P w K mg base nAlike "_law_alike" (defScope s__law_alike) f cdv A outer s H E p) := ⟨p, ⟨hot.1, hot.2⟩, List.mem_singleton.mpr rfl⟩
    refine ⟨_, pss_cons (ps_if (pt_cmp (pc_isN (pv 1)) rfl) (pss_one (ps_ret (pe_cmp (pc_isN (pv 0)) rfl))) pss_nil)
      (pss_cons (ps_if (pt_val (pe_callB call_isi (by rfl) B.isinstance (by decide +kernel) (pa_cons (pv 1) (pa_cons (pe_bltn (v := .ty "bool") (by rfl) B.bool (by decide +kernel) rfl) pa_nil)))) (pss_one (ps_ret (pe_and (pe_callB call_isi (by rfl) B.isinstance (by decide +kernel) (pa_cons (pv 0) (pa_cons (pe_bltn (v := .ty "bool") (by rfl) B.bool (by decide +kernel) rfl) pa_nil))) (pe_one (pe_cmpR op_eq (pv 0) (pv 1) (nomark _)))))) pss_nil)
      (pss_cons (ps_if (pt_val (pe_callB call_isi (by rfl) B.isinstance (by decide +kernel) (pa_cons (pv 1) (pa_cons (pe_bltn (v := .ty "int") (by rfl) B.int (by decide +kernel) rfl) pa_nil)))) (pss_one (ps_ret (pe_and (pe_callB call_isi (by rfl) B.isinstance (by decide +kernel) (pa_cons (pv 0) (pa_cons (pe_bltn (v := .ty "int") (by rfl) B.int (by decide +kernel) rfl) pa_nil))) (pe_and (pe_not (pe_callB call_isi (by rfl) B.isinstance (by decide +kernel) (pa_cons (pv 0) (pa_cons (pe_bltn (v := .ty "bool") (by rfl) B.bool (by decide +kernel) rfl) pa_nil)))) (pe_one (pe_cmpR op_eq (pv 0) (pv 1) (nomark _))))))) pss_nil)
      (pss_cons (ps_if (pt_val (pe_callB call_isi (by rfl) B.isinstance (by decide +kernel) (pa_cons (pv 1) (pa_cons (pe_bltn (v := .ty "str") (by rfl) B.str (by decide +kernel) rfl) pa_nil)))) (pss_one (ps_ret (pe_and (pe_callB call_isi (by rfl) B.isinstance (by decide +kernel) (pa_cons (pv 0) (pa_cons (pe_bltn (v := .ty "str") (by rfl) B.str (by decide +kernel) rfl) pa_nil))) (pe_one (pe_cmpR op_eq (pv 0) (pv 1) (nomark _)))))) pss_nil)
      (pss_cons (ps_if (pt_val (pe_callB call_isi (by rfl) B.isinstance (by decide +kernel) (pa_cons (pv 1) (pa_cons (pe_bltn (v := .ty "dict") (by rfl) B.dict (by decide +kernel) rfl) pa_nil)))) pss_never pss_nil)
      (pss_cons (ps_if (PW.pt (pw_or (pt_cmpR op_ne (pe_callB call_isi (by rfl) B.isinstance (by decide +kernel) (pa_cons (pv 1) (pa_cons (pe_bltn (v := .ty "tuple") (by rfl) B.tuple (by decide +kernel) rfl) pa_nil))) (pe_callB call_isi (by rfl) B.isinstance (by decide +kernel) (pa_cons (pv 0) (pa_cons (pe_bltn (v := .ty "tuple") (by rfl) B.tuple (by decide +kernel) rfl) pa_nil))) (nomark _))
          (pw_or1 (pt_cmpR op_ne (pe_callB call_isi (by rfl) B.isinstance (by decide +kernel) (pa_cons (pv 1) (pa_cons (pe_bltn (v := .ty "list") (by rfl) B.list (by decide +kernel) rfl) pa_nil))) (pe_callB call_isi (by rfl) B.isinstance (by decide +kernel) (pa_cons (pv 0) (pa_cons (pe_bltn (v := .ty "list") (by rfl) B.list (by decide +kernel) rfl) pa_nil))) (nomark _))))) (pss_one (ps_ret pe_bl)) pss_nil)
      (pss_cons (ps_if (pt_cmpR op_ne (pe_callB call_len_seq (by rfl) B.len PySem.boot_len (pa_cons (pv 0) pa_nil)) (pe_callB call_len_seq (by rfl) B.len PySem.boot_len (pa_cons (pv 1) pa_nil)) (nomark _)) (pss_one (ps_ret pe_bl)) pss_nil)
      (pss_one (ps_ret (pe_callB (cr_allHot hc) (by rfl) B.all (by decide +kernel) (pa_cons (pe_lcHotB (own := [("_law_k", 3)]) (g := gName 3) hc scAlike.nd (by rfl) B.range (pa_cons (pe_callB call_len_seq (by rfl) B.len PySem.boot_len (pa_cons (pv 1) pa_nil)) pa_nil) (blkOk_by (N := nAlike) (sc := defScope s__law_alike) (by decide +kernel)) (fun _ _ _ _ _ => pg_name (i := 3) scAlike.nd rfl (.inl rfl))
          (fun pinsB σB sB HB CB clB fpB back => pe_hasHB R hr (Nat.le_refl _) hc back (by rfl) (pa_cons (pe_ix (r := rIx K) ix_seq (pv 0) (pv 3) (fun _ _ => rfl)) (pa_cons (pe_ix (r := rIx K) ix_seq (pv 1) (pv 3) (fun _ _ => rfl)) pa_nil)))) pa_nil)))))))))), ?_⟩
    cases a with
    | non => exact ⟨_, rfl, _, rfl, iteT ⟨_, rfl, q H (Same.refl H)⟩⟩
    | bl b =>
      refine ⟨_, rfl, _, rfl, iteF ?_⟩
      refine ⟨_, rfl, _, _, _, _, true, rfl, .ty _, .base (.bl _), kit_ty (by decide +kernel), _, rfl, iteT ?_⟩
      refine ⟨_, rfl, _, _, _, _, true, rfl, .ty _, .base (.bl _), kit_ty (by decide +kernel), _, rfl, iteT ?_⟩
      refine ⟨_, rfl, _, rfl, rfl, ?_⟩
      rw [decide_eq_true rfl]
      exact q H (Same.refl H)
    | int i =>
      refine ⟨_, rfl, _, rfl, iteF ?_⟩
      refine ⟨_, rfl, _, _, _, _, false, rfl, .ty _, .base (.int _), kit_ty (by decide +kernel), _, rfl, iteF ?_⟩
      refine ⟨_, rfl, _, _, _, _, true, rfl, .ty _, .base (.int _), kit_ty (by decide +kernel), _, rfl, iteT ?_⟩
      refine ⟨_, rfl, _, _, _, _, true, rfl, .ty _, .base (.int _), kit_ty (by decide +kernel), _, rfl, iteT ?_⟩
      refine ⟨_, rfl, _, _, _, _, false, rfl, .ty _, .base (.int _), kit_ty (by decide +kernel), _, rfl, _, rfl, iteT ?_⟩
      refine ⟨_, rfl, _, rfl, rfl, ?_⟩
      rw [decide_eq_true rfl]
      exact q H (Same.refl H)
    | str i =>
      refine ⟨_, rfl, _, rfl, iteF ?_⟩
      refine ⟨_, rfl, _, _, _, _, false, rfl, .ty _, .base (.str _), kit_ty (by decide +kernel), _, rfl, iteF ?_⟩
      refine ⟨_, rfl, _, _, _, _, false, rfl, .ty _, .base (.str _), kit_ty (by decide +kernel), _, rfl, iteF ?_⟩
      refine ⟨_, rfl, _, _, _, _, true, rfl, .ty _, .base (.str _), kit_ty (by decide +kernel), _, rfl, iteT ?_⟩
      refine ⟨_, rfl, _, _, _, _, true, rfl, .ty _, .base (.str _), kit_ty (by decide +kernel), _, rfl, iteT ?_⟩
      refine ⟨_, rfl, _, rfl, rfl, ?_⟩
      rw [decide_eq_true rfl]
      exact q H (Same.refl H)
    | @lst _ a b xs ys ha hb hl few hx =>
      refine ⟨_, rfl, _, rfl, iteF ?_⟩
      refine ⟨_, rfl, _, _, _, _, false, rfl, .ty _, .base (.lst hb), kit_ty (by decide +kernel), _, rfl, iteF ?_⟩
      refine ⟨_, rfl, _, _, _, _, false, rfl, .ty _, .base (.lst hb), kit_ty (by decide +kernel), _, rfl, iteF ?_⟩
      refine ⟨_, rfl, _, _, _, _, false, rfl, .ty _, .base (.lst hb), kit_ty (by decide +kernel), _, rfl, iteF ?_⟩
      refine ⟨_, rfl, _, _, _, _, false, rfl, .ty _, .base (.lst hb), kit_ty (by decide +kernel), _, rfl, iteF ?_⟩
      refine ⟨_, rfl, _, _, _, _, false, rfl, .ty _, .base (.lst hb), kit_ty (by decide +kernel), _, rfl, _, _, _, _, false, rfl, .ty _, .base (.lst ha), kit_ty (by decide +kernel), rfl, _, rfl, iteNS rfl ?_⟩
      refine ⟨_, rfl, _, _, _, _, true, rfl, .ty _, .base (.lst hb), kit_ty (by decide +kernel), _, rfl, _, _, _, _, true, rfl, .ty _, .base (.lst ha), kit_ty (by decide +kernel), rfl, _, rfl, iteNS rfl ?_⟩
      refine ⟨_, rfl, _, _, rfl, .inl (SqL.of ha), _, rfl, _, _, rfl, .inl (SqL.of hb), rfl, _, rfl, iteNS (by rw [hl]) ?_⟩
      exact alikeEndH (fun H' s => ⟨.inl (s _ _ ha), .inl (s _ _ hb)⟩) hl few hx q
    | @tup _ a b xs ys ha hb hl few hx =>
      refine ⟨_, rfl, _, rfl, iteF ?_⟩
      refine ⟨_, rfl, _, _, _, _, false, rfl, .ty _, .base (.tup hb), kit_ty (by decide +kernel), _, rfl, iteF ?_⟩
      refine ⟨_, rfl, _, _, _, _, false, rfl, .ty _, .base (.tup hb), kit_ty (by decide +kernel), _, rfl, iteF ?_⟩
      refine ⟨_, rfl, _, _, _, _, false, rfl, .ty _, .base (.tup hb), kit_ty (by decide +kernel), _, rfl, iteF ?_⟩
      refine ⟨_, rfl, _, _, _, _, false, rfl, .ty _, .base (.tup hb), kit_ty (by decide +kernel), _, rfl, iteF ?_⟩
      refine ⟨_, rfl, _, _, _, _, true, rfl, .ty _, .base (.tup hb), kit_ty (by decide +kernel), _, rfl, _, _, _, _, true, rfl, .ty _, .base (.tup ha), kit_ty (by decide +kernel), rfl, _, rfl, iteNS rfl ?_⟩
      refine ⟨_, rfl, _, _, _, _, false, rfl, .ty _, .base (.tup hb), kit_ty (by decide +kernel), _, rfl, _, _, _, _, false, rfl, .ty _, .base (.tup ha), kit_ty (by decide +kernel), rfl, _, rfl, iteNS rfl ?_⟩
      refine ⟨_, rfl, _, _, rfl, .inr (SqT.of ha), _, rfl, _, _, rfl, .inr (SqT.of hb), rfl, _, rfl, iteNS (by rw [hl]) ?_⟩
      exact alikeEndH (fun H' s => ⟨.inr (s _ _ ha), .inr (s _ _ hb)⟩) hl few hx q
theorem alikeH_all (D : IsDef K mg "_law_alike" s__law_alike) (B : Blt mg) : ∀ n : Nat, HasH P w K mg base (n + 1) "_law_alike" ["_law_found", "_law_due"] (spAlike n)
  | 0 => alikeH0 D
  | n + 1 => alikeH1 D B (alikeH_all D B n)
end
end DR

set_option Elab.async false
set_option linter.all false
set_option maxRecDepth 100000
set_option maxHeartbeats 4000000
namespace DR
open PySem PySem.Spec PyProof.Rows L2
open L2H (RoomH Hot1 PinOk cxH HotC)
/-- isinstance(e, c), e the exception that is handled -/
theorem call_isP {X : Cx} {a D : Addr} {oe : Obj} (C : ExcC X.K D) (hp : (a, oe) ∈ X.pn) (hz : Zc (.ref D) none oe) (hf : ∃ vs, oe.data = .fields vs) : CallR X (.builtin "isinstance") (rIsE X.K D a) := by
  intro pins s σ H xs us Q I r h
  obtain ⟨c, cv, b, rfl, hcv, e, q⟩ := h
  cases r with
  | cons rx rr =>
    cases rr with
    | cons rt rr =>
      cases rr
      cases rx
      cases hcv _ rt
      have g := (I.pin (a, oe) (List.mem_append_left _ hp)).1
      obtain ⟨vs, hv⟩ := hf
      have J : PySem.W.InstAt s.heap a oe D none := by
        obtain ⟨oc, od, oda, osl⟩ := oe
        obtain ⟨h1, h2⟩ := hz
        dsimp only at h1 h2 hv
        subst h1 h2 hv
        exact ⟨g, rfl, rfl, trivial⟩
      exact PySem.W.kia_one (PySem.W.handS_kitx_exc C.hg C.hk C.hs C.hd C.ha C.hn C.ht C.hm) I.kIn J e (fun z => nomatch z) fun tk => ⟨.bl b, H, I.kept (t' := tk) fun _ _ z => z, rfl, q⟩
theorem db_eqv (ns ms : List Bool) : PyData.eqv (.list (ns.map .bool)) (.list (ms.map .bool)) = decide (ns = ms) := by
  have key : ∀ ns ms : List Bool, PyData.eqvAll (ns.map .bool) (ms.map .bool) = decide (ns = ms) := by
    intro ns
    induction ns with
    | nil =>
      intro ms
      cases ms <;> simp [PyData.eqvAll]
    | cons p ns ih =>
      intro ms
      cases ms with
      | nil => simp [PyData.eqvAll]
      | cons q ms =>
        rw [List.map_cons, List.map_cons]
        rw [Bool.eq_iff_iff]
        simp [PyData.eqvAll, ih, PyData.eqv]
  rw [← key ns ms]
  simp [PyData.eqv]
theorem db_lay : ∀ ns : List Bool, PyData.canLayAll0 (ns.map .bool) = true
  | [] => by simp [PyData.canLayAll0]
  | p :: ns => by simp [PyData.canLayAll0, PyData.canLay0, db_lay ns]
theorem db_depth : ∀ ns : List Bool, PyData.depthAll (ns.map .bool) = 0
  | [] => by simp [PyData.depthAll]
  | p :: ns => by simp [PyData.depthAll, PyData.depth, db_depth ns]
theorem db_shaped (ns : List Bool) : SeqAt.shaped (.list (ns.map .bool)) = true := by
  have := db_depth ns
  simp [SeqAt.shaped, PyData.canLay0, db_lay, PyData.depth]
  omega
theorem db_all {K : PySem.W.Frag} {H : Hp} : ∀ ns : List Bool, DpAll K H (ns.map V.bl) (ns.map .bool)
  | [] => .nil
  | n :: ns => .cons (.bl n) (db_all ns)
theorem db_dp {K : PySem.W.Frag} {H : Hp} {l : Addr} {ns : List Bool} (h : SqL K H l (ns.map V.bl)) : Dp K H (.ref l) (.list (ns.map .bool)) := .lst h (db_all ns)
/-- what the text says of the four classes, asked of a D -/
structure IsC (K : PySem.W.Frag) (mg : Str → Option Value) (D : Addr) (ks : List Bool) : Prop where
  exc : ExcC K D
  ve : mg "ValueError" = none
  val : PySem.W.kitOne K (.ref D) (.type "ValueError") = some true
  four : ∃ c1 c2 c3 c4 b1 b2 b3 b4, mg "BadYard" = some (.ref c1) ∧ mg "BadOrder" = some (.ref c2) ∧ mg "TooMany" = some (.ref c3) ∧ mg "BadText" = some (.ref c4) ∧
    PySem.W.kitOne K (.ref D) (.ref c1) = some b1 ∧ PySem.W.kitOne K (.ref D) (.ref c2) = some b2 ∧ PySem.W.kitOne K (.ref D) (.ref c3) = some b3 ∧ PySem.W.kitOne K (.ref D) (.ref c4) = some b4 ∧ ks = [b1, b2, b3, b4]
def words : List Str := ["yard", "order", "many", "text"]
section
variable {P : Program} {w : World} {K : PySem.W.Frag} {mg : Str → Option Value} {base : Heap}
def spIs (K : PySem.W.Frag) (mg : Str → Option Value) : SpX := fun a c d vs H Q _ => ∃ (D : Addr) (ks : List Bool) (wd : Str), vs = [.ref a, .str wd] ∧ c = .ref D ∧ d = none ∧ IsC K mg D ks ∧ ∀ H', Same H H' → Q (.bl (decide (ks = words.map fun u => decide (wd = u)))) H'
abbrev nIs : List Str := ["_law_e", "_law_word", "_law_kinds", "_law_words", "_law_one"]
theorem scIs : FnScope nIs ["_law_e", "_law_word"] (defScope s__law_is) := ⟨rfl, rfl, rfl, by decide +kernel, rfl, by decide +kernel, by decide +kernel⟩
theorem hasX_is (D : IsDef K mg "_law_is" s__law_is) (B : Blt mg) : HasX P w K mg base 1 "_law_is" ["_law_e", "_law_word"] (spIs K mg) := by
  refine hasX_of D scIs (fun _ _ _ _ _ _ us hl => match us, hl with | [_, _], _ => rfl) (fun a c d vs H Q E h => ?_) (fun f cdv A outer s H vs Q E p c d hot zc hr h => ?_)
  · obtain ⟨D, ks, wd, rfl, _⟩ := h
    rfl
  · obtain ⟨D, ks, wd, rfl, rfl, rfl, ic, q⟩ := h
    obtain ⟨c1, c2, c3, c4, b1, b2, b3, b4, m1, m2, m3, m4, k1, k2, k3, k4, rfl⟩ := ic.four
    obtain ⟨a, oe⟩ := p
    have hp : (a, oe) ∈ (cxH CX0 P w K mg base nIs "_law_is" (defScope s__law_is) f cdv A outer s H E (a, oe)).pn := List.mem_singleton.mpr rfl
    have hf : ∃ vs, oe.data = .fields vs := by
      obtain ⟨_, vs, e, _⟩ := hot
      exact ⟨vs, e⟩
    have hc : HotC (cxH CX0 P w K mg base nIs "_law_is" (defScope s__law_is) f cdv A outer s H E (a, oe)) := ⟨(a, oe), ⟨hot.1, hot.2⟩, hp⟩
    have is := call_isP (X := cxH CX0 P w K mg base nIs "_law_is" (defScope s__law_is) f cdv A outer s H E (a, oe)) ic.exc hp zc hf
    have hu : (cxH CX0 P w K mg base nIs "_law_is" (defScope s__law_is) f cdv A outer s H E (a, oe)).A.units + 64 < cLine := by
      have := hr.un
      show (A.deeper (envOfC "_law_is" (defScope s__law_is) s.heap.objs.size f cdv)).units + 64 < cLine
      omega
    refine ⟨_, pss_cons (ps_set (i := 2) scIs.nd rfl (.inl rfl) (pe_lst (pa_cons (pe_callB is (by rfl) B.isinstance (by decide +kernel) (pa_cons (pv 0) (pa_cons (pe_glob (v := .ref c1) rfl m1 rfl) pa_nil)))
        (pa_cons (pe_callB is (by rfl) B.isinstance (by decide +kernel) (pa_cons (pv 0) (pa_cons (pe_glob (v := .ref c2) rfl m2 rfl) pa_nil)))
        (pa_cons (pe_callB is (by rfl) B.isinstance (by decide +kernel) (pa_cons (pv 0) (pa_cons (pe_glob (v := .ref c3) rfl m3 rfl) pa_nil)))
        (pa_cons (pe_callB is (by rfl) B.isinstance (by decide +kernel) (pa_cons (pv 0) (pa_cons (pe_glob (v := .ref c4) rfl m4 rfl) pa_nil))) pa_nil))))))
      (pss_cons (ps_set (i := 3) scIs.nd rfl (.inl rfl) (pe_lst (pa_cons pe_str (pa_cons pe_str (pa_cons pe_str (pa_cons pe_str pa_nil))))))
      (pss_one (ps_ret (pe_and (pe_callB is (by rfl) B.isinstance (by decide +kernel) (pa_cons (pv 0) (pa_cons (pe_bltn (v := .ty "ValueError") (by rfl) ic.ve (by decide +kernel) rfl) pa_nil)))
        (pe_one (pe_cmpR (r := rEqD K) (op_eqD hu) (pv 2) (pe_lcHot (own := [("_law_one", 4)]) (g := gName 4) hc scIs.nd (pv 3) (blkOk_by (N := nIs) (sc := defScope s__law_is) (by decide +kernel)) (fun _ _ _ _ _ => pg_name (i := 4) scIs.nd rfl (.inl rfl)) (fun _ _ _ _ _ => pe_cmpR op_eq (pv 1) (pv 4) (nomark _))) (by with_unfolding_all rfl))))))), ?_⟩
    refine ⟨_, rfl, _, _, b1, rfl, (fun u e => e), k1, _, rfl, _, _, b2, rfl, (fun u e => e), k2, _, rfl, _, _, b3, rfl, (fun u e => e), k3, _, rfl, _, _, b4, rfl, (fun u e => e), k4, by show 4 ≤ sizeLine; decide, fun l1 n1 => ?_⟩
    refine ⟨by show 4 ≤ sizeLine; decide, fun l2 n2 => ?_⟩
    have s1 := same_new (o := .lst [.bl b1, .bl b2, .bl b3, .bl b4]) n1
    have s2 := same_new (o := .lst (words.map V.str)) n2
    have e1 : upd (upd H l1 (.lst [.bl b1, .bl b2, .bl b3, .bl b4])) l2 (.lst (words.map V.str)) l1 = some (.lst ([b1, b2, b3, b4].map V.bl)) := s2 _ _ upd_same
    have e2 : upd (upd H l1 (.lst [.bl b1, .bl b2, .bl b3, .bl b4])) l2 (.lst (words.map V.str)) l2 = some (.lst (words.map V.str)) := upd_same
    have s02 := s1.trans s2
    show _
    refine ⟨_, rfl, _, _, true, rfl, (fun u e => e), ic.val, _, rfl, iteT ?_⟩
    change tOp (rEqD K) _ _ _ (upd (upd H l1 (.lst [.bl b1, .bl b2, .bl b3, .bl b4])) l2 (.lst (words.map V.str))) _
    generalize upd (upd H l1 (.lst [.bl b1, .bl b2, .bl b3, .bl b4])) l2 (.lst (words.map V.str)) = H2 at e1 e2 s02
    refine ⟨_, rfl, _, rfl, l2, _, rfl, SqL.of e2, fun D nD => ?_⟩
    have l2D : l2 ≠ D := ne_of_none e2 nD
    refine ⟨fun i H' => Kp D H2 H' ∧ H' D = some (.lst (((words.take i).map fun u => decide (wd = u)).map V.bl)), ⟨Kp.put _ _ _, upd_same⟩, fun i H' ⟨kp, _⟩ => SqL.of (kp _ _ l2D e2), fun i x H' hx ⟨kp, eD⟩ => ?_, fun H' ⟨kp, eD⟩ => ?_⟩
    · obtain ⟨u, hu', rfl⟩ : ∃ u, words[i]? = some u ∧ x = .str u := by
        rw [List.getElem?_map] at hx
        cases e : words[i]? with
        | none =>
          rw [e] at hx
          cases hx
        | some u =>
          rw [e] at hx
          injection hx with hx
          exact ⟨u, rfl, hx.symm⟩
      refine ⟨rfl, _, rfl, _, rfl, rfl, _, eD, ?_, fun b o nb e => ?_, ?_⟩
      · rw [List.length_map, List.length_map, List.length_take]
        exact small1000 (Nat.le_trans (Nat.min_le_right _ _) (by decide))
      · rw [upd_ne nb]
        exact kp b o nb e
      · rw [upd_same, List.take_succ, hu', List.map_append, List.map_append]
        have ed : decide (V.str wd = V.str u) = decide (wd = u) := by
          rw [Bool.eq_iff_iff]
          simp
        rw [ed]
        rfl
    · rw [List.length_map, List.take_length] at eD
      refine ⟨.list ([b1, b2, b3, b4].map .bool), .list ((words.map fun u => decide (wd = u)).map .bool), db_dp (SqL.of ((fun c o e => kp c o (ne_of_none e nD) e : Same H2 H') _ _ e1)), db_dp (SqL.of eD), db_shaped _, db_shaped _, ?_⟩
      rw [db_eqv]
      exact q H' (s02.trans fun c o e => kp c o (ne_of_none e nD) e)
end
end DR

set_option Elab.async false
set_option linter.all false
set_option maxRecDepth 100000
set_option maxHeartbeats 4000000
/-! ### _law_is, of an exception that has a dict -/
namespace DR
open PySem PySem.Spec PyProof.Rows L2
open L2H (RoomH Hot1 PinOk cxH HotC)
/-- isinstance(e, c), e the handled exception, its dict at dd -/
def rIsED (K : PySem.W.Frag) (D a dd : Addr) : List V → Hp → VK → Prop := fun xs H Q => ∃ fs, H dd = some (.xd fs) ∧ rIsE K D a xs H Q
theorem call_isPD {X : Cx} {a D dd : Addr} {oe : Obj} (C : ExcC X.K D) (hp : (a, oe) ∈ X.pn) (hz : Zc (.ref D) (some dd) oe) (hf : ∃ vs, oe.data = .fields vs) : CallR X (.builtin "isinstance") (rIsED X.K D a dd) := by
  intro pins s σ H xs us Q I r h
  obtain ⟨fs, hdd, c, cv, b, rfl, hcv, e, q⟩ := h
  cases r with
  | cons rx rr =>
    cases rr with
    | cons rt rr =>
      cases rr
      cases rx
      cases hcv _ rt
      have g := (I.pin (a, oe) (List.mem_append_left _ hp)).1
      obtain ⟨vs, hv⟩ := hf
      have hx : ObjOk X.prog X.w H s.heap dd (.xd fs) := I.hok dd _ hdd
      obtain ⟨mA, hns, hr⟩ := hx
      obtain ⟨od, ho, hl⟩ := lookIn_ns hns
      have J : PySem.W.InstAt s.heap a oe D (some od) := by
        obtain ⟨oc, od', oda, osl⟩ := oe
        obtain ⟨h1, h2⟩ := hz
        dsimp only at h1 h2 hv
        subst h1 h2 hv
        exact ⟨g, rfl, rfl, ho⟩
      exact PySem.W.kia_one (PySem.W.kitx_exc (od := some od) (x := a) (ox := oe) (by
        obtain ⟨cdD, hcD, _⟩ := PySem.W.any_some C.hd
        rw [hcD]
        rfl) C.hg C.hk C.hs C.ha C.hn C.ht C.hm) I.kIn J e (fun z => nomatch z) fun tk => ⟨.bl b, H, I.kept (t' := tk) fun _ _ z => z, rfl, q⟩
section
variable {P : Program} {w : World} {K : PySem.W.Frag} {mg : Str → Option Value} {base : Heap}
def spIsD (K : PySem.W.Frag) (mg : Str → Option Value) : SpX := fun a c d vs H Q _ => ∃ (D dd : Addr) (fs : List (Str × V)) (ks : List Bool) (wd : Str), vs = [.ref a, .str wd] ∧ c = .ref D ∧ d = some dd ∧ H dd = some (.xd fs) ∧ IsC K mg D ks ∧ ∀ H', Same H H' → Q (.bl (decide (ks = words.map fun u => decide (wd = u)))) H'
theorem hasX_isD (D : IsDef K mg "_law_is" s__law_is) (B : Blt mg) : HasX P w K mg base 1 "_law_is" ["_law_e", "_law_word"] (spIsD K mg) := by
  refine hasX_of D scIs (fun _ _ _ _ _ _ us hl => match us, hl with | [_, _], _ => rfl) (fun a c d vs H Q E h => ?_) (fun f cdv A outer s H vs Q E p c d hot zc hr h => ?_)
  · obtain ⟨D, dd, fs, ks, wd, rfl, _⟩ := h
    rfl
  · obtain ⟨D, dd, fs, ks, wd, rfl, rfl, rfl, hdd, ic, q⟩ := h
    obtain ⟨c1, c2, c3, c4, b1, b2, b3, b4, m1, m2, m3, m4, k1, k2, k3, k4, rfl⟩ := ic.four
    obtain ⟨a, oe⟩ := p
    have hp : (a, oe) ∈ (cxH CX0 P w K mg base nIs "_law_is" (defScope s__law_is) f cdv A outer s H E (a, oe)).pn := List.mem_singleton.mpr rfl
    have hf : ∃ vs, oe.data = .fields vs := by
      obtain ⟨_, vs, e, _⟩ := hot
      exact ⟨vs, e⟩
    have hc : HotC (cxH CX0 P w K mg base nIs "_law_is" (defScope s__law_is) f cdv A outer s H E (a, oe)) := ⟨(a, oe), ⟨hot.1, hot.2⟩, hp⟩
    have is := call_isPD (X := cxH CX0 P w K mg base nIs "_law_is" (defScope s__law_is) f cdv A outer s H E (a, oe)) ic.exc hp zc hf
    have hu : (cxH CX0 P w K mg base nIs "_law_is" (defScope s__law_is) f cdv A outer s H E (a, oe)).A.units + 64 < cLine := by
      have := hr.un
      show (A.deeper (envOfC "_law_is" (defScope s__law_is) s.heap.objs.size f cdv)).units + 64 < cLine
      omega
    refine ⟨_, pss_cons (ps_set (i := 2) scIs.nd rfl (.inl rfl) (pe_lst (pa_cons (pe_callB is (by rfl) B.isinstance (by decide +kernel) (pa_cons (pv 0) (pa_cons (pe_glob (v := .ref c1) rfl m1 rfl) pa_nil)))
        (pa_cons (pe_callB is (by rfl) B.isinstance (by decide +kernel) (pa_cons (pv 0) (pa_cons (pe_glob (v := .ref c2) rfl m2 rfl) pa_nil)))
        (pa_cons (pe_callB is (by rfl) B.isinstance (by decide +kernel) (pa_cons (pv 0) (pa_cons (pe_glob (v := .ref c3) rfl m3 rfl) pa_nil)))
        (pa_cons (pe_callB is (by rfl) B.isinstance (by decide +kernel) (pa_cons (pv 0) (pa_cons (pe_glob (v := .ref c4) rfl m4 rfl) pa_nil))) pa_nil))))))
      (pss_cons (ps_set (i := 3) scIs.nd rfl (.inl rfl) (pe_lst (pa_cons pe_str (pa_cons pe_str (pa_cons pe_str (pa_cons pe_str pa_nil))))))
      (pss_one (ps_ret (pe_and (pe_callB is (by rfl) B.isinstance (by decide +kernel) (pa_cons (pv 0) (pa_cons (pe_bltn (v := .ty "ValueError") (by rfl) ic.ve (by decide +kernel) rfl) pa_nil)))
        (pe_one (pe_cmpR (r := rEqD K) (op_eqD hu) (pv 2) (pe_lcHot (own := [("_law_one", 4)]) (g := gName 4) hc scIs.nd (pv 3) (blkOk_by (N := nIs) (sc := defScope s__law_is) (by decide +kernel)) (fun _ _ _ _ _ => pg_name (i := 4) scIs.nd rfl (.inl rfl)) (fun _ _ _ _ _ => pe_cmpR op_eq (pv 1) (pv 4) (nomark _))) (by with_unfolding_all rfl))))))), ?_⟩
    refine ⟨_, rfl, _, hdd, _, _, b1, rfl, (fun u e => e), k1, _, rfl, _, hdd, _, _, b2, rfl, (fun u e => e), k2, _, rfl, _, hdd, _, _, b3, rfl, (fun u e => e), k3, _, rfl, _, hdd, _, _, b4, rfl, (fun u e => e), k4, by show 4 ≤ sizeLine; decide, fun l1 n1 => ?_⟩
    refine ⟨by show 4 ≤ sizeLine; decide, fun l2 n2 => ?_⟩
    have s1 := same_new (o := .lst [.bl b1, .bl b2, .bl b3, .bl b4]) n1
    have s2 := same_new (o := .lst (words.map V.str)) n2
    have e1 : upd (upd H l1 (.lst [.bl b1, .bl b2, .bl b3, .bl b4])) l2 (.lst (words.map V.str)) l1 = some (.lst ([b1, b2, b3, b4].map V.bl)) := s2 _ _ upd_same
    have e2 : upd (upd H l1 (.lst [.bl b1, .bl b2, .bl b3, .bl b4])) l2 (.lst (words.map V.str)) l2 = some (.lst (words.map V.str)) := upd_same
    have s02 := s1.trans s2
    show _
    refine ⟨_, rfl, _, s02 _ _ hdd, _, _, true, rfl, (fun u e => e), ic.val, _, rfl, iteT ?_⟩
    change tOp (rEqD K) _ _ _ (upd (upd H l1 (.lst [.bl b1, .bl b2, .bl b3, .bl b4])) l2 (.lst (words.map V.str))) _
    generalize upd (upd H l1 (.lst [.bl b1, .bl b2, .bl b3, .bl b4])) l2 (.lst (words.map V.str)) = H2 at e1 e2 s02
    refine ⟨_, rfl, _, rfl, l2, _, rfl, SqL.of e2, fun D nD => ?_⟩
    have l2D : l2 ≠ D := ne_of_none e2 nD
    refine ⟨fun i H' => Kp D H2 H' ∧ H' D = some (.lst (((words.take i).map fun u => decide (wd = u)).map V.bl)), ⟨Kp.put _ _ _, upd_same⟩, fun i H' ⟨kp, _⟩ => SqL.of (kp _ _ l2D e2), fun i x H' hx ⟨kp, eD⟩ => ?_, fun H' ⟨kp, eD⟩ => ?_⟩
    · obtain ⟨u, hu', rfl⟩ : ∃ u, words[i]? = some u ∧ x = .str u := by
        rw [List.getElem?_map] at hx
        cases e : words[i]? with
        | none =>
          rw [e] at hx
          cases hx
        | some u =>
          rw [e] at hx
          injection hx with hx
          exact ⟨u, rfl, hx.symm⟩
      refine ⟨rfl, _, rfl, _, rfl, rfl, _, eD, ?_, fun b o nb e => ?_, ?_⟩
      · rw [List.length_map, List.length_map, List.length_take]
        exact small1000 (Nat.le_trans (Nat.min_le_right _ _) (by decide))
      · rw [upd_ne nb]
        exact kp b o nb e
      · rw [upd_same, List.take_succ, hu', List.map_append, List.map_append]
        have ed : decide (V.str wd = V.str u) = decide (wd = u) := by
          rw [Bool.eq_iff_iff]
          simp
        rw [ed]
        rfl
    · rw [List.length_map, List.take_length] at eD
      refine ⟨.list ([b1, b2, b3, b4].map .bool), .list ((words.map fun u => decide (wd = u)).map .bool), db_dp (SqL.of ((fun c o e => kp c o (ne_of_none e nD) e : Same H2 H') _ _ e1)), db_dp (SqL.of eD), db_shaped _, db_shaped _, ?_⟩
      rw [db_eqv]
      exact q H' (s02.trans fun c o e => kp c o (ne_of_none e nD) e)
end
end DR

set_option Elab.async false
set_option linter.all false
set_option maxRecDepth 100000
set_option maxHeartbeats 4000000
namespace DR
open PySem PySem.Spec PyProof.Rows L2 TL
open GxR (TabB TabG Tabbed)
def rJoinS (K : PySem.W.Frag) : V → List V → Hp → VK → Prop := fun x xs H Q => ∃ a p, ∃ ys : List Str, x = .str a ∧ xs = [.ref p] ∧ (SqL K H p (ys.map V.str) ∨ SqT K H p (ys.map V.str)) ∧ (ys.map (·.length)).sum + ys.length * a.length ≤ 16777216 ∧ Q (.str (Txt.join a ys)) H
theorem mt_joinS {X : Cx} : MtR X "str.join" (rJoinS X.K) := mt_join
def RefT (r0 : Str) (rs : List Str) (k : Nat) : Prop := (rowNums "yard" 1 r0 = none ∧ k = 0) ∨ ∃ (m : Int) (ps : List (Int × Int)), rowNums "yard" 1 r0 = some [m] ∧ ps.length ≤ 900 ∧ (∀ (j : Nat) (r : Str) (p : Int × Int), rs[j]? = some r → ps[j]? = some p → rowNums "tie" 2 r = some [p.1, p.2]) ∧
  ∃ b, rs[ps.length]? = some b ∧ rowNums "tie" 2 b = none ∧ k = 1 + ps.length
def RefW (r0 : Str) (rs : List Str) (i : Nat) (y : Str) : Prop := ∃ (m : Int) (ps : List (Int × Int)), rowNums "yard" 1 r0 = some [m] ∧ ps.length ≤ 900 ∧ (∀ (j : Nat) (r : Str) (p : Int × Int), rs[j]? = some r → ps[j]? = some p → rowNums "tie" 2 r = some [p.1, p.2]) ∧ rs.length = ps.length ∧ Wrong m ps i y
def ReadC (CB CT T1 T2 : Addr) (H : Hp) (E : XK) (r0 : Str) (rs : List Str) : Prop := (rowNums "yard" 1 r0 = none ∧ ∀ d H', Gw T1 T2 H H' → H d = none → H' d = some (.xd [("row", .int 0)]) → E (.ref CT) (some d) H') ∨
   ∃ (m : Int) (ps : List (Int × Int)), rowNums "yard" 1 r0 = some [m] ∧ ps.length ≤ 900 ∧ (∀ (j : Nat) (r : Str) (p : Int × Int), rs[j]? = some r → ps[j]? = some p → rowNums "tie" 2 r = some [p.1, p.2]) ∧
    ((∃ b, rs[ps.length]? = some b ∧ rowNums "tie" 2 b = none ∧ ∀ d H', Gw T1 T2 H H' → H d = none → H' d = some (.xd [("row", .int (1 + (ps.length : Nat)))]) → E (.ref CT) (some d) H') ∨
     (rs.length = ps.length ∧ ∃ i y, Wrong m ps i y ∧ ∀ d H', Gw T1 T2 H H' → H d = none → H' d = some (.xd [("why", .str y), ("at", .int (i : Int))]) → E (.ref CB) (some d) H'))
theorem refT_go {CB CT T1 T2 : Addr} {H : Hp} {E : XK} {r0 : Str} {rs : List Str} {k : Nat} (rt : RefT r0 rs k) (h : ∀ d H', Gw T1 T2 H H' → H d = none → H' d = some (.xd [("row", .int (k : Int))]) → E (.ref CT) (some d) H') : ReadC CB CT T1 T2 H E r0 rs := by
  rcases rt with ⟨h0, rfl⟩ | ⟨m, ps, h0, pl, par, b, hb, hbn, rfl⟩
  · exact .inl ⟨h0, h⟩
  · refine .inr ⟨m, ps, h0, pl, par, .inl ⟨b, hb, hbn, fun d H' g nd ed => h d H' g nd ?_⟩⟩
    rw [ed]
    have e : ((1 + ps.length : Nat) : Int) = 1 + (ps.length : Nat) := by omega
    rw [e]
theorem refW_go {CB CT T1 T2 : Addr} {H : Hp} {E : XK} {r0 : Str} {rs : List Str} {i : Nat} {y : Str} (rw_ : RefW r0 rs i y) (h : ∀ d H', Gw T1 T2 H H' → H d = none → H' d = some (.xd [("why", .str y), ("at", .int (i : Int))]) → E (.ref CB) (some d) H') : ReadC CB CT T1 T2 H E r0 rs := by
  obtain ⟨m, ps, h0, pl, par, hl, wr⟩ := rw_
  exact .inr ⟨m, ps, h0, pl, par, .inr ⟨hl, i, y, wr, h⟩⟩
section
variable {P : Program} {w : World} {K : PySem.W.Frag} {mg : Str → Option Value} {base : Heap} {CB CT CE T1 T2 : Addr}
def spRef18 (T1 T2 : Addr) : Sp := fun vs H Q _ => ∃ (l : Addr) (r0 : Str) (rs : List Str) (wd : Str) (told : V), vs = [.ref l, .str wd, told] ∧ H l = some (.lst ((r0 :: rs).map V.str)) ∧ (∀ r ∈ r0 :: rs, 10 ∉ TL.tl r ∧ r.length ≤ 50) ∧ rs.length ≤ 950 ∧ T1 ≠ T2 ∧ TabG H T1 ∧ TabG H T2 ∧
  ((wd = "text" ∧ ∃ k : Nat, told = .int (k : Int) ∧ RefT r0 rs k) ∨ (wd = "yard" ∧ ∃ (t : Addr) (i : Nat) (y : Str), told = .ref t ∧ H t = some (.tup [.int (i : Int), .str y]) ∧ RefW r0 rs i y)) ∧ ∀ H', Gw T1 T2 H H' → Q (.bl true) H'
theorem scRef18 : FnScope ["_law_rows", "_law_word", "_law_told", "_law_e"] ["_law_rows", "_law_word", "_law_told"] (defScope s__law_refused) := ⟨rfl, rfl, rfl, by decide +kernel, rfl, by decide +kernel, by decide +kernel⟩
theorem tk_no18 {X : Cx} : L2N.Takes X (fun _ _ _ _ => False) := fun u s' ⟨_, _, _, _, _, _, _, _, _, _, _, _, _, _, _, _, w⟩ => w.elim
theorem sums_len : ∀ (l : List Str) (n : Nat), (∀ r ∈ l, r.length ≤ n) → (l.map (·.length)).sum ≤ n * l.length
  | [], n, _ => by simp
  | r :: l, n, h => by
    have h1 := h r List.mem_cons_self
    have h2 := sums_len l n fun q hq => h q (List.mem_cons_of_mem _ hq)
    simp only [List.map_cons, List.sum_cons, List.length_cons, Nat.mul_succ]
    omega
theorem has_ref18 (D : IsDef K mg "_law_refused" s__law_refused) (RD : HasE P w K mg base 6 "read" ["text"] (spReadE CB CT T1 T2))
    (IS : HasX P w K mg base 1 "_law_is" ["_law_e", "_law_word"] (spIsD K mg)) (icB : IsC K mg CB [true, false, false, false]) (icT : IsC K mg CT [false, false, false, true]) (AL : HasH P w K mg base 3 "_law_alike" ["_law_found", "_law_due"] (spAlike 2))
    (xfB : XfC K CB) (nat_ : PySem.W.findIn K (.ref CB) "at" = some none) (nwhy : PySem.W.findIn K (.ref CB) "why" = some none) (xfT : XfC K CT) (nrow : PySem.W.findIn K (.ref CT) "row" = some none) (gE : mg "YardError" = some (.ref CE))
    (xmB : PySem.W.exmOne K (.ref CB) (.ref CE) = some true) (xmT : PySem.W.exmOne K (.ref CT) (.ref CE) = some true) : Has P w K mg base 7 "_law_refused" ["_law_rows", "_law_word", "_law_told"] (spRef18 T1 T2) := by
  refine has_of D scRef18 (fun _ _ _ _ _ _ us hl => match us, hl with | [_, _, _], _ => rfl) (fun vs H Q E h => ?_) (fun f cdv A outer s H vs Q E hr h => ?_)
  · obtain ⟨l, r0, rs, wd, told, rfl, _⟩ := h
    rfl
  · obtain ⟨l, r0, rs, wd, told, rfl, el, rows, len, ne, t1, t2, cs, q⟩ := h
    refine ⟨_, pss_cons (L2N.ps_try_as (i := 3) (c := .ref CE) (Wout := fun _ _ _ _ => False) rfl rfl scRef18.nd rfl rfl ⟨by rfl, by decide, .inl gE⟩ tk_no18
          (fun W pn xe tk po => pss_one (ps_expr (pe_hasE (j := 6) RD ⟨hr.hd, hr.dp, hr.un⟩ (by decide) tk (by rfl) (pa_cons (pe_m1 (r := rJoinS K) PySem.F.slot_str_join PySem.F.type_str_join mt_joinS pe_str (pv 0)) pa_nil))))
          (fun a oe cls d pn z hf => pss_cons (ps_if (pt_not (pt_val (pe_hasX IS hr (by decide) z hf (by rfl) (pa_cons (pv 3) (pa_cons (pv 1) pa_nil))))) (pss_one (ps_ret pe_bl)) pss_nil)
            (pss_cons (ps_if (pt_cmpR op_eq (pv 1) pe_str (nomark _)) (pss_one (ps_ret (pe_hasH (j := 6) AL ⟨hr.dp, hr.un⟩ (by decide) ⟨(a, oe), hot_suite z hf, List.mem_cons_self⟩ (by rfl) (pa_cons (pe_xf xfT nrow z.zc hf (pv 3)) (pa_cons (pv 2) pa_nil))))) pss_nil)
            (pss_one (ps_ret (pe_hasH (j := 6) AL ⟨hr.dp, hr.un⟩ (by decide) ⟨(a, oe), hot_suite z hf, List.mem_cons_self⟩ (by rfl) (pa_cons (pe_tup (pa_cons (pe_xf xfB nat_ z.zc hf (pv 3)) (pa_cons (pe_xf xfB nwhy z.zc hf (pv 3)) pa_nil))) (pa_cons (pv 2) pa_nil))))))))
      (pss_one (ps_ret pe_bl)), ?_⟩
    have ylen : ("\n" : Str).length = 1 := rfl
    have sl := sums_len (r0 :: rs) 50 fun r hr => (rows r hr).2
    have ll : (r0 :: rs).length ≤ 951 := by simp only [List.length_cons]; omega
    have jl : (Txt.join "\n" (r0 :: rs)).length ≤ 100000 := by
      rw [TL.join_eq]
      refine Nat.le_trans (StrLaws.join_length_le _ _) ?_
      rw [ylen]
      omega
    have eL : ([(("row" : Str), V.int 0)] : List (Str × V)).lookup ("row" : Str) = some (V.int 0) := lk_pos
    refine ⟨⟨_, rfl⟩, _, rfl, "\n", l, r0 :: rs, rfl, rfl, .inl (SqL.of el), by rw [ylen]; omega, r0, rs, rfl, fun r hr => ⟨(rows r hr).1, Nat.le_trans (rows r hr).2 (by decide)⟩, jl, ne, t1, t2, ?_⟩
    rcases cs with ⟨rfl, k, rfl, rt⟩ | ⟨rfl, t, i, y, rfl, et, rw_⟩
    · refine refT_go rt fun d H1 g nd ed => ⟨true, xmT, fun _ a na => ?_, fun z => nomatch z⟩
      refine ⟨_, rfl, _, rfl, CT, d, _, [false, false, false, true], "text", rfl, rfl, rfl, ed, icT, fun H2 s2 => ?_⟩
      have ew : decide ([false, false, false, true] = words.map fun u => decide (("text" : Str) = u)) = true := by decide +kernel
      rw [ew]
      have ed2 := s2 _ _ ed
      refine ⟨_, rfl, iteF ?_⟩
      refine ⟨_, rfl, rfl, _, rfl, ?_⟩
      refine iteT ?_
      refine ⟨_, rfl, rfl, rfl, d, _, _, rfl, ed2, lk_pos, ?_⟩
      exact ⟨_, rfl, _, _, rfl, .int 1 _, fun H3 s3 => q _ ((g.same2 s2).same2 s3)⟩
    · refine refW_go rw_ fun d H1 g nd ed => ⟨true, xmB, fun _ a na => ?_, fun z => nomatch z⟩
      refine ⟨_, rfl, _, rfl, CB, d, _, [true, false, false, false], "yard", rfl, rfl, rfl, ed, icB, fun H2 s2 => ?_⟩
      have ew : decide ([true, false, false, false] = words.map fun u => decide (("yard" : Str) = u)) = true := by decide +kernel
      rw [ew]
      have ed2 := s2 _ _ ed
      have et2 := s2 _ _ (g.tup et)
      refine ⟨_, rfl, iteF ?_⟩
      refine ⟨_, rfl, rfl, _, rfl, ?_⟩
      rw [show decide (V.str ("yard" : Str) = V.str "text") = false by decide +kernel]
      refine iteF ?_
      have l1 : ([(("why" : Str), V.str y), ("at", V.int (i : Int))] : List (Str × V)).lookup ("at" : Str) = some (V.int (i : Int)) := (lk_neg (by decide +kernel)).trans lk_pos
      have l2 : ([(("why" : Str), V.str y), ("at", V.int (i : Int))] : List (Str × V)).lookup ("why" : Str) = some (V.str y) := lk_pos
      refine ⟨_, rfl, rfl, rfl, d, _, _, rfl, ed2, l1, ?_⟩
      refine ⟨_, rfl, rfl, rfl, d, _, _, rfl, ed2, l2, ?_⟩
      refine ⟨by show 2 ≤ sizeLine; decide, fun p np => ?_⟩
      have sp := same_new (o := .tup [.int (i : Int), .str y]) np
      refine ⟨_, rfl, _, _, rfl, .tup upd_same (sp _ _ et2) rfl (by show 2 ≤ 1000; decide) fun j u v hu hv => ?_, fun H3 s3 => q _ (((g.same2 s2).same2 sp).same2 s3)⟩
      match j with
      | 0 =>
        injection hu with hu
        injection hv with hv
        subst hu
        subst hv
        exact .int 0 _
      | 1 =>
        injection hu with hu
        injection hv with hv
        subst hu
        subst hv
        exact .str 0 _
      | j + 2 => cases hu
end
end DR

set_option Elab.async false
set_option linter.all false
set_option maxRecDepth 100000
set_option maxHeartbeats 4000000
namespace DR
open PySem PySem.Spec PyProof.Rows L2
open GxR (TabB TabG Tabbed)
theorem rows_len {n : Nat} (n30 : n ≤ 30) {ps : List (Int × Int)} (ti : Ties n ps) : ∀ ls : List (Int × Int), (∀ p ∈ ls, p ∈ ps) → ((ls.map rowTie).map (·.length)).sum ≤ 12 * ls.length := fun ls => by
  induction ls with
  | nil => intro _; simp
  | cons p r ih =>
    intro h
    have h1 := rowTie_len n30 ti (h p (by simp))
    have h2 := ih fun q hq => h q (List.mem_cons_of_mem _ hq)
    simp only [List.map_cons, List.sum_cons, List.length_cons]
    omega
theorem textOf_len {n : Nat} (n30 : n ≤ 30) {ps : List (Int × Int)} (ti : Ties n ps) : (textOf n ps).length ≤ 20000 := by
  unfold textOf
  rw [TL.join_eq]
  refine Nat.le_trans (StrLaws.join_length_le _ _) ?_
  have b := rows_len n30 ti ps fun _ h => h
  have c := rowYard_len n30
  have l9 := ti.len900 n30
  have e9 : ("\n" : Str).length = 1 := rfl
  simp only [List.map_cons, List.sum_cons, List.length_cons, List.length_map] at b ⊢
  rw [e9]
  omega
theorem Ties.num30 {n : Nat} {ps : List (Int × Int)} (ti : Ties n ps) (n30 : n ≤ 30) : ∀ p ∈ ps, Num30 p.1 ∧ Num30 p.2 := fun p hp => by
  have r := ti.rng p hp
  exact ⟨⟨by omega, by omega⟩, by omega, by omega⟩
section
variable {P : Program} {w : World} {K : PySem.W.Frag} {mg : Str → Option Value} {base : Heap} {C T1 T2 : Addr}
def spRead (C T1 T2 : Addr) : Sp := fun vs H Q _ => ∃ (n : Nat) (ps : List (Int × Int)), vs = [.str (textOf n ps)] ∧ Ties n ps ∧ 1 ≤ n ∧ n ≤ 30 ∧ T1 ≠ T2 ∧ TabG H T1 ∧ TabG H T2 ∧ ∀ y H', Gw T1 T2 H H' → YardAt C H' y n ps → Q (.ref y) H'
theorem has_read (D : IsDef K mg "read" s_read) (B : Blt mg) (T : YTxt K mg C) (I : HasM P w K mg base C 2 "__init__" ["self", "many", "ties"] (spInit C)) (mk : PySem.W.makesIn K C = true) (kc : PySem.W.keepIn K (.ref C) = true)
    (NU : Has P w K mg base 4 "numbers_of" ["row", "at", "name", "many"] (spNums T1 T2)) : Has P w K mg base 5 "read" ["text"] (spRead C T1 T2) := by
  refine has_of D scRead (fun _ _ _ _ _ _ us hl => match us, hl with | [_], _ => rfl) (fun vs H Q E h => ?_) (fun f cdv A outer s H vs Q E hr h => ?_)
  · obtain ⟨n, ps, rfl, _⟩ := h
    rfl
  · obtain ⟨n, ps, rfl, ti, n1, n30, ne, t1, t2, q⟩ := h
    refine ⟨_, pss_cons (ps_asg (pe_split (pv 0) pe_str) (pg_star (by rfl) (pg_name (i := 1) scRead.nd rfl (.inl rfl)) (pg_name (i := 2) scRead.nd rfl (.inl rfl))))
      (pss_cons (ps_set (i := 3) scRead.nd rfl (.inl rfl) (pe_has NU hr (by decide) (by rfl) (pa_cons (pv 1) (pa_cons pe_int (pa_cons pe_str (pa_cons pe_int pa_nil))))))
      (pss_cons (ps_setLc (i := 4) (own := [("at", 5), ("row", 6)]) (g := gTup K 2 (gCons (gName 5) (gCons (gName 6) gNil))) (tt := tYes) (by rfl) scRead.nd rfl rfl (sw_true rfl rfl rfl (by decide +kernel)) (pi_enumS (by rfl) B.enumerate (pa_cons (pv 2) pa_nil) (by decide) (by decide)) (blkOk_by (N := nRead) (sc := defScope s_read) (by decide +kernel))
          (fun _ _ _ _ _ => by exact (pg_tup rfl (pgs_cons (by exact (pg_name (i := 5) scRead.nd rfl (.inl rfl))) (pgs_cons (by exact (pg_name (i := 6) scRead.nd rfl (.inl rfl))) pgs_nil)))) (fun _ _ _ _ _ => pts_nil)
          (fun _ _ _ _ _ => pe_callTy (T := "tuple") (r := rTupOf K) call_tuple_of (by rfl) B.tuple (by decide +kernel) (pa_cons (pe_has NU hr (by decide) (by rfl) (pa_cons (pv 6) (pa_cons (pv 5) (pa_cons pe_str (pa_cons pe_int pa_nil))))) pa_nil)))
      (pss_one (ps_ret (pe_hasMk I mk kc hr (by decide) (by rfl) T.mgC (pa_cons (pe_ix (r := rIxL K) ix_list (pv 3) pe_int (fun _ _ => rfl)) (pa_cons (pv 4) pa_nil))))))), ?_⟩
    have tl_ := textOf_len n30 ti
    have ss : 20002 ≤ sizeLine := by decide
    have sx : 1000 ≤ sizeLine := by decide
    have nm := ti.num30 n30
    have sp := split_text n30 nm
    have l9 := ti.len900 n30
    refine ⟨_, rfl, ⟨_, rfl⟩, textOf n ps, "\n", rfl, rfl, rfl, by omega, fun p np => ?_⟩
    have s1 : Same H (upd H p (.lst ((Txt.split (textOf n ps) "\n").map V.str))) := same_new np
    refine ⟨p, .str (rowYard n), (ps.map rowTie).map V.str, rfl, SqL.of (by rw [upd_same, sp]; rfl), fun D nD => ?_⟩
    have s2 := s1.trans (same_new (o := .lst ((ps.map rowTie).map V.str)) nD)
    have eD : upd (upd H p (.lst ((Txt.split (textOf n ps) "\n").map V.str))) D (.lst ((ps.map rowTie).map V.str)) D = some (.lst ((ps.map rowTie).map V.str)) := upd_same
    generalize upd (upd H p (.lst ((Txt.split (textOf n ps) "\n").map V.str))) D (.lst ((ps.map rowTie).map V.str)) = H2 at s2 eD
    have g2 : Gw T1 T2 H H2 := .of t1 t2 s2
    have ry := rowYard_len n30
    refine ⟨_, rfl, rowYard n, "yard", 0, 1, [(n : Int)], rfl, by omega, split_yard_ok n30, rfl, fun i hi => ?_, by simp, ne, g2.t1, g2.t2, fun N H3 g3 nN eN => ?_⟩
    · rw [List.mem_singleton.mp hi]
      exact ⟨by omega, by omega⟩
    have eD3 := g3.lst eD
    have lr : ((ps.map rowTie).map V.str).length = ps.length := by rw [List.length_map, List.length_map]
    refine ⟨_, rfl, D, _, rfl, SqL.of eD3, fun L nL => lc_enumS (K := K) (a := D) (k0 := 1) (xs := (ps.map rowTie).map V.str) (vs := [5, 6])
      (Pv := fun k H' => Gw T1 T2 H3 H' ∧ ∃ as : List Addr, H' L = some (.lst (as.map V.ref)) ∧ TupsAt H' as (ps.take k)) ?_ (fun i H' _ ⟨g, _⟩ => SqL.of (g.lst eD3)) (fun i x H' T hx ⟨g, as, eL, ta⟩ nT => ?_) (fun H' ⟨g, as, eL, ta⟩ => ?_)⟩
    · exact ⟨.of g3.t1 g3.t2 (same_new nL), [], upd_same, .nil⟩
    · rw [List.getElem?_map, List.getElem?_map] at hx
      have hi : i < ps.length := by
        rcases Nat.lt_or_ge i ps.length with z | z
        · exact z
        · rw [List.getElem?_eq_none z] at hx
          cases hx
      obtain ⟨pr, hp⟩ : ∃ pr, ps[i]? = some pr := ⟨_, List.getElem?_eq_getElem hi⟩
      rw [hp] at hx
      obtain rfl : V.str (rowTie pr) = x := Option.some.inj hx
      have mp := List.mem_of_getElem? hp
      obtain ⟨m1, m2⟩ := nm pr mp
      have sT : Same H' (upd H' T (.tup [.int (1 + (i : Nat)), .str (rowTie pr)])) := same_new nT
      have gT := Gw.of g.t1 g.t2 sT
      have rl := rowTie_len n30 ti mp
      refine ⟨T, _, rfl, SqT.of upd_same, rfl, _, _, rfl, _, _, rfl, rfl, rfl, ?_⟩
      refine ⟨_, rfl, _, rfl, rowTie pr, "tie", _, 2, [pr.1, pr.2], rfl, by omega, split_tie_ok m1 m2, rfl, fun z hz => ?_, by simp, ne, gT.t1, gT.t2, fun l H5 g5 nl el => ?_⟩
      · rcases List.mem_cons.mp hz with e | e
        · rw [e]; exact m1
        · rw [List.mem_singleton.mp e]; exact m2
      refine ⟨l, _, rfl, .inl ⟨SqL.of el, fun q0 nq => ?_⟩⟩
      have g6 : Gw T1 T2 H' (upd H5 q0 (.tup [.int pr.1, .int pr.2])) := (gT.trans g5).same2 (same_new nq)
      have e6 := g6.lst eL
      have la : as.length = i := by
        rw [ta.length, List.length_take]
        omega
      refine ⟨_, e6, ?_, ?_⟩
      · rw [List.length_map, la]
        omega
      have put : ∀ (H6 : Hp) (xs ys : List V), H6 L = some (.lst xs) → Gw T1 T2 H3 H6 → H3 L = none → Gw T1 T2 H3 (upd H6 L (.lst ys)) := fun H6 xs ys e k n3 => by
        refine ⟨fun b o eb no => ?_, fun b eb => ?_, ?_, ?_⟩
        · rw [upd_ne (ne_of_none eb n3)]
          exact k.same b o eb no
        · exact k.none_ b (none_upd eb).2
        · obtain ⟨qs, z1, z2⟩ := k.t1
          exact ⟨qs, (upd_ne (ne_of z1 e (by intro z; cases z))).trans z1, z2⟩
        · obtain ⟨qs, z1, z2⟩ := k.t2
          exact ⟨qs, (upd_ne (ne_of z1 e (by intro z; cases z))).trans z1, z2⟩
      refine ⟨put _ _ _ e6 (g.trans g6) nL, as ++ [q0], ?_, ?_⟩
      · rw [upd_same, List.map_append]
        rfl
      · rw [List.take_succ, hp]
        exact (((ta.keep fun b xs e => g6.tup e).append (.cons (upd_same : upd H5 q0 (.tup [.int pr.1, .int pr.2]) q0 = _) .nil)).lst e6)
    · rw [lr, List.take_length] at ta
      have pL : PairsAt H' L ps := ⟨as, eL, ta⟩
      have gH : Gw T1 T2 H H' := (g2.trans g3).trans g
      refine ⟨_, rfl, N, _, _, _, rfl, rfl, SqL.of (g.lst eN), atI_nat (j := 0) rfl, _, rfl, fun x dx nx ndx hne => ?_⟩
      have sx : Same H' (upd (upd H' dx (.own x)) x (.ins C dx [])) := (same_new ndx).trans (same_new ((upd_ne (Ne.symm hne)).trans nx))
      refine ⟨x, dx, L, n, ps, rfl, upd_same, pL.same sx, ti, n1, n30, fun H6 k hy => ⟨rfl, ?_⟩⟩
      refine q x H6 (gH.same2 fun b o e => ?_) hy
      exact k b o (ne_of_none e nx) (sx b o e)
end
end DR

set_option Elab.async false
set_option linter.all false
set_option maxRecDepth 100000
set_option maxHeartbeats 4000000
namespace DR
open PySem PySem.Spec PyProof.Rows L2
section
variable {P : Program} {w : World} {K : PySem.W.Frag} {mg : Str → Option Value} {base : Heap}
def rStrI : List V → Hp → VK → Prop := fun xs H Q => ∃ i : Int, xs = [.int i] ∧ i.natAbs.log2 < 1920 ∧ Q (.str (toString i)) H
def rCatS : R2 := fun x y H Q => ∃ i j : Str, x = .str i ∧ y = .str j ∧ i.length + j.length ≤ sizeLine ∧ Q (.str (i ++ j)) H
theorem yard_cat (n : Nat) : ("yard " : Str) ++ numS (n : Int) = rowYard n := by
  refine str_eq ?_
  rw [tl_yard, TL.tl_append]
  rfl
theorem tie_cat (p : Int × Int) : ("tie " : Str) ++ numS p.1 ++ " " ++ numS p.2 = rowTie p := by
  refine str_eq ?_
  rw [tl_tie, TL.tl_append, TL.tl_append, TL.tl_append]
  rfl
def spLText : Sp := fun vs H Q _ => ∃ (t : Addr) (n : Nat) (ps : List (Int × Int)), vs = [.ref t] ∧ LawT H t n ps ∧ Ties n ps ∧ n ≤ 30 ∧ ∀ H', Same H H' → Q (.str (textOf n ps)) H'
abbrev nLText : List Str := ["_law_t", "_law_one", "_law_other"]
theorem scLText : FnScope nLText ["_law_t"] (defScope s__law_text) := ⟨rfl, rfl, rfl, by decide +kernel, rfl, by decide +kernel, by decide +kernel⟩
theorem has_ltext (D : IsDef K mg "_law_text" s__law_text) (B : Blt mg) : Has P w K mg base 1 "_law_text" ["_law_t"] spLText := by
  refine has_of D scLText (fun _ _ _ _ _ _ us hl => match us, hl with | [_], _ => rfl) (fun vs H Q E h => ?_) (fun f cdv A outer s H vs Q E hr h => ?_)
  · obtain ⟨t, n, ps, rfl, _⟩ := h
    rfl
  · obtain ⟨t, n, ps, rfl, lt, ti, n30, q⟩ := h
    refine ⟨_, pss_one (ps_ret (pe_join pe_str (pe_op op_cat
        (pe_lst (pa_cons (pe_op (r := rCatS) op_add_str pe_str (pe_callTy (T := "str") (r := rStrI) call_str_int (by rfl) B.str (by decide +kernel) (pa_cons (pe_ix (r := rIxT K) ix_tup (pv 0) pe_int (fun _ _ => rfl)) pa_nil))) pa_nil))
        (pe_lc (own := [("_law_one", 1), ("_law_other", 2)]) (g := gTup K 2 (gCons (gName 1) (gCons (gName 2) gNil))) (tt := tYes) (by rfl) scLText.nd (pi_list (pe_ix (r := rIxT K) ix_tup (pv 0) pe_int (fun _ _ => rfl))) (blkOk_by (N := nLText) (sc := defScope s__law_text) (by decide +kernel))
          (fun _ _ _ _ _ => by exact (pg_tup rfl (pgs_cons (by exact (pg_name (i := 1) scLText.nd rfl (.inl rfl))) (pgs_cons (by exact (pg_name (i := 2) scLText.nd rfl (.inl rfl))) pgs_nil)))) (fun _ _ _ _ _ => pts_nil)
          (fun _ _ _ _ _ => pe_op (r := rCatS) op_add_str (pe_op (r := rCatS) op_add_str (pe_op (r := rCatS) op_add_str pe_str (pe_callTy (T := "str") (r := rStrI) call_str_int (by rfl) B.str (by decide +kernel) (pa_cons (pv 1) pa_nil))) pe_str) (pe_callTy (T := "str") (r := rStrI) call_str_int (by rfl) B.str (by decide +kernel) (pa_cons (pv 2) pa_nil))))))), ?_⟩
    obtain ⟨l, et, pl⟩ := id lt
    have l9 := ti.len900 n30
    have e1 : ("tie " : Str).length = 4 := rfl
    have e2 : (" " : Str).length = 1 := rfl
    have e3 : ("yard " : Str).length = 5 := rfl
    have sl : 100 ≤ sizeLine := by decide
    have z1 : (Str.ofString (toString (n : Int))).length ≤ 2 := numS_len (i := (n : Int)) (by omega) (by omega)
    refine ⟨⟨_, rfl⟩, _, rfl, t, _, _, _, rfl, rfl, SqT.of et, atI_nat (j := 0) rfl, _, rfl, log_small (by omega) (by omega), _, _, rfl, rfl, by omega, by show 1 ≤ sizeLine; decide, fun a na => ?_⟩
    have s1 := same_new (o := .lst [V.str (("yard " : Str) ++ Str.ofString (toString (n : Int)))]) na
    have pl1 := pl.same s1
    obtain ⟨as, el, ta⟩ := id pl1
    refine ⟨_, rfl, t, _, _, _, rfl, rfl, SqT.of (s1 _ _ et), atI_nat (j := 1) rfl, l, rfl, ⟨_, SqL.of el⟩, fun D nD => lc_mapS rowTie pl1 nD (by omega) (fun _ _ => rfl) (fun p H2 R hp s2 fin => ?_) (fun H2 s2 eD => ?_)⟩
    · have r := ti.rng p hp
      have y1 : (Str.ofString (toString p.1)).length ≤ 2 := numS_len (i := p.1) (by omega) (by omega)
      have y2 : (Str.ofString (toString p.2)).length ≤ 2 := numS_len (i := p.2) (by omega) (by omega)
      refine ⟨_, rfl, _, rfl, log_small (by omega) (by omega), _, _, rfl, rfl, by omega, _, _, rfl, rfl, by rw [app_len]; omega, _, rfl, _, rfl, log_small (by omega) (by omega), _, _, rfl, rfl, by simp only [app_len]; omega, ?_⟩
      have e : (("tie " : Str) ++ Str.ofString (toString p.1) ++ " " ++ Str.ofString (toString p.2)) = rowTie p := tie_cat p
      rw [e]
      exact fin _ (Same.refl _)
    · have e : (("yard " : Str) ++ Str.ofString (toString (n : Int))) = rowYard n := yard_cat n
      rw [e] at s1 s2
      refine ⟨_, _, _, _, rfl, rfl, s2 _ _ upd_same, eD, ?_, fun l3 nl3 => ?_⟩
      · rw [List.length_map, List.length_map]
        show 1 + ps.length ≤ sizeLine
        exact Nat.le_of_lt (small1000 (by omega))
      · refine ⟨_, l3, rowYard n :: ps.map rowTie, rfl, rfl, .inl (SqL.of (by rw [upd_same]; rfl)), ?_, q _ ((s1.trans s2).trans (same_new nl3))⟩
        have b := rows_len n30 ti ps fun _ h => h
        have c := rowYard_len n30
        have e9 : ("\n" : Str).length = 1 := rfl
        simp only [List.map_cons, List.sum_cons, List.length_cons, List.length_map] at b ⊢
        rw [e9]
        omega
end
end DR

set_option Elab.async false
set_option linter.all false
set_option maxRecDepth 100000
set_option maxHeartbeats 4000000
namespace DR
open PySem PySem.Spec PyProof.Rows L2
section
variable {P : Program} {w : World} {K : PySem.W.Frag} {mg : Str → Option Value} {base : Heap}
/-! ### the dice -/
def spDice (K : PySem.W.Frag) : Sp := fun vs H Q _ => ∃ (a : Addr) (k : Int) (ns : List Int), vs = [.ref a, .int k] ∧ SqL K H a (ns.map V.int) ∧ ns.length ≤ 63 ∧ 0 ≤ k ∧ k < 2147483647 ∧
  ∀ H' d, Same H H' → H d = none → DiceAt H' d → Q (.ref d) H'
theorem scDice : FnScope ["_law_script", "_law_k", "_law_found", "_law_cell"] ["_law_script", "_law_k"] (defScope s__law_dice) := ⟨rfl, rfl, rfl, by decide +kernel, rfl, by decide +kernel, by decide +kernel⟩
theorem has_dice (D : IsDef K mg "_law_dice" s__law_dice) (B : Blt mg) : Has P w K mg base 1 "_law_dice" ["_law_script", "_law_k"] (spDice K) := by
  refine has_of D scDice (fun _ _ _ _ _ _ us hl => match us, hl with | [_, _], _ => rfl) (fun vs H Q E h => ?_) (fun f cdv A outer s H vs Q E hr h => ?_)
  · obtain ⟨a, k, ns, rfl, _⟩ := h
    rfl
  · obtain ⟨a, k, ns, rfl, hS, hn, k0, k1, q⟩ := h
    refine ⟨_, pss_cons (ps_set (i := 2) scDice.nd rfl (.inl rfl) (pv 1))
      (pss_cons (ps_for PassesOwn.never rfl (pi_list (pv 0)) (pg_name (i := 3) scDice.nd rfl (.inl rfl))
        (pss_one (ps_set (i := 2) scDice.nd rfl (.inl rfl) (pe_op op_modN (pe_op op_add (pe_op op_mul (pv 2) pe_int) (pe_callB call_abs (by rfl) B.abs (by decide +kernel) (pa_cons (pv 3) pa_nil))) pe_int))))
      (pss_one (ps_ret (pe_op op_cat (pe_lst (pa_cons (pv 2) (pa_cons pe_int pa_nil)))
        (pe_lc (own := [("_law_cell", 3)]) (g := gName 3) (by rfl) scDice.nd (pi_list (pv 0)) (blkOk_by (N := ["_law_script", "_law_k", "_law_found", "_law_cell"]) (sc := defScope s__law_dice) (by decide +kernel)) (fun _ _ _ _ _ => pg_name (i := 3) scDice.nd rfl (.inl rfl))
          (fun _ _ _ _ _ => pts_one (pt_cmpR op_ge (pv 3) (pe_op op_pow pe_int pe_int) (nomark _))) (fun _ _ _ _ _ => pv 3)))))), ?_⟩
    refine ⟨_, rfl, _, rfl, a, rfl, ⟨_, hS⟩, for_list (K := K) (a := a) (xs := ns.map V.int) (fun i σ H2 => ∃ (f : Int) (v : Option V), σ = [some (.ref a), some (.int k), some (.int f), v] ∧ 0 ≤ f ∧ f < 2147483647 ∧ H2 = H)
      ⟨k, none, rfl, k0, k1, rfl⟩ (fun i σ H2 _ ⟨_, _, _, _, _, e⟩ => e ▸ hS) ?_ ?_⟩
    · rintro i y σ H2 hi ⟨f, v, rfl, f0, f1, rfl⟩
      obtain ⟨z, rfl⟩ : ∃ z, y = V.int z := ints_at hi
      refine ⟨_, rfl, _, _, rfl, rfl, .inl ⟨by omega, by omega⟩, _, rfl, _, rfl, _, _, rfl, rfl, _, _, rfl, rfl, (by show (2147483647 : Int) ≠ 0; decide), ?_⟩
      refine ⟨_, _, rfl, ?_, ?_, rfl⟩
      · rw [Int.fmod_eq_emod_of_nonneg _ (by decide)]
        exact Int.emod_nonneg _ (by decide)
      · rw [Int.fmod_eq_emod_of_nonneg _ (by decide)]
        exact Int.emod_lt_of_pos _ (by decide)
    · rintro σ H2 ⟨f, v, rfl, f0, f1, rfl⟩
      refine ⟨_, rfl, (by show 2 ≤ sizeLine; decide), fun l1 n1 => ?_⟩
      have s1 : Same H2 (upd H2 l1 (.lst [.int f, .int 0])) := same_new n1
      refine ⟨_, rfl, a, rfl, ⟨_, s1.seq hS⟩, fun D1 nD => ?_⟩
      have s2 : Same (upd H2 l1 (.lst [.int f, .int 0])) (upd (upd H2 l1 (.lst [.int f, .int 0])) D1 (.lst [])) := same_new nD
      obtain ⟨dl, nD2⟩ := none_upd nD
      refine lc_list (K := K) (a := a) (xs := ns.map V.int) (fun i H3 => ∃ ys : List Int, ys.length ≤ i ∧ Kp D1 (upd H2 l1 (.lst [.int f, .int 0])) H3 ∧ H3 D1 = some (.lst (ys.map V.int)))
        ⟨[], Nat.le_refl _, Kp.put _ _ _, upd_same⟩ (fun i H3 _ ⟨ys, _, kp, _⟩ => ?_) ?_ ?_
      · exact seq_keep (fun b o n e => kp b o (fun z => by rw [z, nD] at e; cases e) e) (s1.seq hS)
      · rintro i y H3 hi ⟨ys, hl, kp, e3⟩
        obtain ⟨z, rfl⟩ : ∃ z, y = V.int z := ints_at hi
        have hi' := (List.getElem?_eq_some_iff.mp hi).1
        rw [List.length_map] at hi'
        refine ⟨rfl, _, rfl, _, _, rfl, rfl, ⟨by decide, by decide, by decide⟩, _, _, rfl, rfl, _, rfl, ite2 (fun _ => ?_) (fun _ => ?_)⟩
        · refine ⟨_, rfl, _, e3, ?_, ys ++ [z], ?_, kp.trans (Kp.put _ _ _), ?_⟩
          · rw [List.length_map]
            exact small1000 (by omega)
          · simp
            omega
          · rw [upd_same]
            simp
        · exact ⟨ys, by omega, kp, e3⟩
      · rintro H3 ⟨ys, hl, kp, e3⟩
        rw [List.length_map] at hl
        have eL : H3 l1 = some (.lst [.int f, .int 0]) := kp l1 _ (fun z => dl z.symm) upd_same
        refine ⟨l1, D1, _, _, rfl, rfl, eL, e3, ?_, fun p np => ?_⟩
        · rw [sizeLine_eq]
          simp
          omega
        · have s3 : Same H2 H3 := fun b o e => kp b o (fun z => by rw [z, nD2] at e; cases e) (s1 b o e)
          refine q _ p (s3.trans (same_new np)) (s3.free np) ⟨_, upd_same, f :: 0 :: ys, rfl, by simp⟩
end
end DR

set_option Elab.async false
set_option linter.all false
set_option maxRecDepth 100000
set_option maxHeartbeats 4000000
namespace DR
open PySem PySem.Spec PyProof.Rows L2
theorem dice_tup {H : Hp} {d t : Addr} {xs : List V} (hd : DiceAt H d) (et : H t = some (.tup xs)) : t ≠ d := fun e => by
  obtain ⟨o, ho, ys, rfl, _⟩ := hd
  rw [e, ho] at et
  injection et with et
  cases et
theorem PairsAt.dice {H : Hp} {d tl : Addr} {ps : List (Int × Int)} {o : HO} (pa : PairsAt H tl ps) (hd : DiceAt H d) : PairsAt (upd H d o) tl ps := by
  obtain ⟨as, e, ta⟩ := pa
  obtain ⟨o1, ho, doo⟩ := id hd
  refine ⟨as, (upd_ne (fun z => hd.ne e z)).trans e, ta.keep fun b xs e => ?_⟩
  rw [upd_ne (fun z => by
    rw [z, ho] at e
    obtain ⟨xs, rfl, _⟩ := doo
    injection e with e
    cases e)]
  exact e
end DR

set_option Elab.async false
set_option linter.all false
set_option maxRecDepth 100000
set_option maxHeartbeats 4000000
/-! ### enumerate(zip(xs, ys)), two lists -/
namespace DR
open PySem PySem.W PyProof.Rows
open PySem.Builtin.SmallTypes (nextOf ownedTupleIsFree)
section
variable {prog : Program} {w : World} {A : Around} {E : Value → Shared → Prop} {s : Shared} {z TI TO i1 i2 l1 l2 : Addr} {k1 k2 : Nat} {xs ys : Array Value} {x y a b : Value}
/-- the zip, whatever tuple it gave out -/
def ZRec (v0 : Value) (f : Bool) (TI TO : Addr) : Obj := { cls := .type "zip", dict := none, data := .fields #[v0, .bool f, .bool false, .ref TI, .ref TO], slots := #[] }
def ZOk (h : Heap) (z TI TO : Addr) : Prop := (h.get? z = some (ZRec .none false TI TO)) ∨ ∃ (T : Addr) (f : Bool), h.get? z = some (ZRec (rawInt T) f TI TO)
theorem ZOk.at {h : Heap} (o : ZOk h z TI TO) : ∃ v0 f, h.get? z = some (ZRec v0 f TI TO) := by
  rcases o with o | ⟨T, f, o⟩
  · exact ⟨_, _, o⟩
  · exact ⟨_, _, o⟩
/-- nothing of it is out, or what was out is gone -/
def ZFree (w : World) (prog : Program) (s : Shared) (z : Addr) : Prop := ∀ (A : Around) (E : Value → Shared → Prop) (Q : Bool → Shared → Prop), Q true s → wpAny (model prog w) A (ownedTupleIsFree (.ref z)) Q E s
theorem zfree_or (o : ZOk s.heap z TI TO) : (∃ v0 f, s.heap.get? z = some (ZRec v0 f TI TO) ∧ ZFree w prog s z) ∨ ∃ T f oT, IsZipHeld s.heap z TI TO T f ∧ s.heap.get? T = some oT := by
  rcases o with o | ⟨T, f, o⟩
  · refine .inl ⟨_, _, o, fun A E Q q => ?_⟩
    unfold ownedTupleIsFree
    exact wpAny_bind (wpAny_field o rfl (x := .none) rfl (wpAny_pure q))
  · cases g : s.heap.get? T with
    | some oT => exact .inr ⟨T, f, oT, o, g⟩
    | none =>
      refine .inl ⟨_, _, o, fun A E Q q => ?_⟩
      unfold ownedTupleIsFree
      refine wpAny_bind (wpAny_field o rfl (x := rawInt T) rfl ?_)
      show wpAny _ _ (loadIfAlive ((T : Int).toNat) >>= _) _ _ _
      rw [Int.toNat_natCast]
      refine wpAny_bind ?_
      have e : ∀ R : Option Obj → Shared → Prop, R none s → wpAny (model prog w) A (loadIfAlive T) R E s := fun R r => by
        have r' : R (s.heap.get? T) s := by rw [g]; exact r
        exact fun _ _ _ => r'
      exact e _ (by simpa using wpAny_pure q)
/-- what a turn leaves -/
structure ZTo (s : Shared) (z TI TO i1 i2 l1 l2 : Addr) (k1 k2 : Nat) (x y : Value) (h' : Heap) : Prop where
  ok : ZOk h' z TI TO
  pr : ∃ a b, IsPair h' TO a b
  one : h'.IsListIter i1 l1 (k1 + 1)
  two : h'.IsListIter i2 l2 (k2 + 1)
  new : IsPair h' s.heap.objs.size x y
  sz : h'.objs.size = s.heap.objs.size + 1
  rest : ∀ c o, c ≠ z → c ≠ TO → c ≠ i1 → c ≠ i2 → s.heap.get? c = some o → h'.get? c = some o
theorem zn_free {Q : Value → Shared → Prop} (D : ZipApart z TI TO i1 i2 l1 l2) {v0 : Value} {f : Bool} (hz : s.heap.get? z = some (ZRec v0 f TI TO)) (zf : ZFree w prog s z) (pI : IsPair s.heap TI (.ref i1) (.ref i2)) (pO : IsPair s.heap TO a b)
    (u1 : s.heap.IsListIter i1 l1 k1) (u2 : s.heap.IsListIter i2 l2 k2) (m1 : s.heap.IsList l1 xs) (m2 : s.heap.IsList l2 ys) (ex : xs[k1]? = some x) (ey : ys[k2]? = some y)
    (q : ∀ h', ZTo s z TI TO i1 i2 l1 l2 k1 k2 x y h' → Q (.ref s.heap.objs.size) { s with heap := h' }) :
    wpAny (model prog w) A (Builtin.«zip.__next__» ⟨[.ref z], []⟩) (fun r s' => ∃ v, r = .done (.ret v) ∧ Q v s') E s := by
  show wpAny _ _ (field (.ref z) 2 >>= _) _ _ _
  refine wpAny_bind (wpAny_field hz rfl (x := .bool false) rfl ?_)
  show wpAny _ _ (field (.ref z) 3 >>= _) _ _ _
  refine wpAny_bind (wpAny_field hz rfl (x := .ref TI) rfl (wpAny_bind (wpAny_seqItems pI rfl ?_)))
  show wpAny _ _ (ownedTupleIsFree (.ref z) >>= _) _ _ _
  refine wpAny_bind (zf A E _ ?_)
  simp only [if_true]
  refine wpAny_bind (wpAny_rule (wpAny_bind (wpAny_field hz rfl (x := .ref TO) rfl (wpAny_bind (wpAny_setField_rec hz (by simp) fun g1 z1 b1 => ?_)))))
  replace z1 : g1.get? z = some (ZRec .ellipsis f TI TO) := z1
  refine wpAny_bind ?_
  simp only [List.zipIdx_cons, List.zipIdx_nil, List.forIn_cons, List.forIn_nil]
  refine wpAny_bind (wpAny_bind (wpAny_onRaise ?_))
  show wpAny _ _ (nextOf (.ref i1) >>= _) _ _ _
  refine wpAny_bind (wpAny_nextOf_list_item (u1.extBut b1.extBut D.i1z) (m1.extBut b1.extBut D.l1z) ex fun g2 n2 b2 => wpAny_pure ?_)
  have p2 : IsPair g2 TO a b := b2.extBut _ _ D.TOi1 (b1.extBut _ _ D.TOz pO)
  refine wpAny_bind (wpAny_seqItems p2 rfl (wpAny_bind (wpAny_updateSeq_pair p2 fun g3 p3 b3 => ?_)))
  replace p3 : IsPair g3 TO x b := p3
  refine wpAny_bind (wpAny_letGo (wpAny_pure (wpAny_bind (wpAny_bind (wpAny_onRaise ?_)))))
  show wpAny _ _ (nextOf (.ref i2) >>= _) _ _ _
  have v2 := ((u2.extBut b1.extBut D.i2z).extBut b2.extBut D.i12.symm).extBut b3.extBut D.TOi2.symm
  have w2 := ((m2.extBut b1.extBut D.l2z).extBut b2.extBut D.l2i1).extBut b3.extBut D.l2TO
  refine wpAny_bind (wpAny_nextOf_list_item v2 w2 ey fun g4 n4 b4 => wpAny_pure ?_)
  have p4 : IsPair g4 TO x b := b4.extBut _ _ D.TOi2 p3
  refine wpAny_bind (wpAny_seqItems p4 rfl (wpAny_bind (wpAny_updateSeq_pair p4 fun g5 p5 b5 => ?_)))
  replace p5 : IsPair g5 TO x y := p5
  refine wpAny_bind (wpAny_letGo (wpAny_pure (wpAny_pure (wpAny_bind (wpAny_seqItems p5 rfl (wpAny_bind (wpAny_newTuple ?_)))))))
  have sz : g5.objs.size = s.heap.objs.size := by rw [b5.1, b4.1, b3.1, b2.1, b1.1]
  have z5 : g5.get? z = some (ZRec .ellipsis f TI TO) := b5.extBut _ _ D.TOz.symm (b4.extBut _ _ D.i2z.symm (b3.extBut _ _ D.TOz.symm (b2.extBut _ _ D.i1z.symm z1)))
  have r5 : ∀ c o, c ≠ z → c ≠ TO → c ≠ i1 → c ≠ i2 → s.heap.get? c = some o → g5.get? c = some o := fun c o hc hO h1 h2 e =>
    b5.extBut _ _ hO (b4.extBut _ _ h2 (b3.extBut _ _ hO (b2.extBut _ _ h1 (b1.extBut _ _ hc e))))
  have one5 : g5.IsListIter i1 l1 (k1 + 1) := ((n2.extBut b3.extBut D.TOi1.symm).extBut b4.extBut D.i12).extBut b5.extBut D.TOi1.symm
  have two5 : g5.IsListIter i2 l2 (k2 + 1) := n4.extBut b5.extBut D.TOi2.symm
  have zlt : z < g5.objs.size := Heap.lt_size z5
  show wpAny _ _ (Builtin.SmallTypes.ownedTupleHandOut (.ref z) (.ref g5.objs.size) >>= _) _ _ _
  refine wpAny_bind ?_
  unfold Builtin.SmallTypes.ownedTupleHandOut
  have z6 : (g5.push { cls := .type "tuple", data := .seq #[x, y] }).get? z = some (ZRec .ellipsis f TI TO) := Heap.get?_push_of_some _ z5
  refine wpAny_bind (wpAny_setField_rec z6 (by simp) fun g7 z7 b7 => ?_)
  replace z7 : g7.get? z = some (ZRec (rawInt g5.objs.size) f TI TO) := z7
  refine wpAny_setField_rec z7 (by simp) fun g8 z8 b8 => ?_
  replace z8 : g8.get? z = some (ZRec (rawInt g5.objs.size) false TI TO) := z8
  have up : ∀ c o, c ≠ z → g5.get? c = some o → g8.get? c = some o := fun c o hc e => b8.extBut _ _ hc (b7.extBut _ _ hc (Heap.get?_push_of_some _ e))
  have t8 : IsPair g8 g5.objs.size x y := b8.extBut _ _ (Nat.ne_of_gt zlt) (b7.extBut _ _ (Nat.ne_of_gt zlt) (Heap.get?_push_size _ rfl))
  have s8 : g8.objs.size = g5.objs.size + 1 := by rw [b8.1, b7.1, Heap.size_push]
  rw [sz] at z8 t8 s8
  refine wpAny_pure ⟨_, rfl, ?_⟩
  show Q (.ref g5.objs.size) _
  rw [sz]
  exact q g8 ⟨.inr ⟨_, _, z8⟩, ⟨x, y, up _ _ D.TOz p5⟩, one5.at fun o e => up _ o D.i1z e, two5.at fun o e => up _ o D.i2z e, t8, s8, fun c o hc hO h1 h2 e => up c o hc (r5 c o hc hO h1 h2 e)⟩
theorem zn_item {Q : Value → Shared → Prop} (D : ZipApart z TI TO i1 i2 l1 l2) (zo : ZOk s.heap z TI TO) (pI : IsPair s.heap TI (.ref i1) (.ref i2)) (pO : IsPair s.heap TO a b)
    (u1 : s.heap.IsListIter i1 l1 k1) (u2 : s.heap.IsListIter i2 l2 k2) (m1 : s.heap.IsList l1 xs) (m2 : s.heap.IsList l2 ys) (ex : xs[k1]? = some x) (ey : ys[k2]? = some y)
    (q : ∀ h', ZTo s z TI TO i1 i2 l1 l2 k1 k2 x y h' → Q (.ref s.heap.objs.size) { s with heap := h' }) :
    wpAny (model prog w) A (nextOf (.ref z)) Q E s := by
  obtain ⟨v0, f, hz⟩ := zo.at
  have ty : s.TypeIs (.ref z) "zip" := ⟨_, hz, rfl⟩
  unfold nextOf
  refine wpAny_bind (wpAny_callSpecial?_slot (name := Str.ofString "__next__") ty F.slot_zip_next (wpAny_call_entry F.slot_zip_next ty F.entry_zip_next ?_ (F.args_zip_next_1 _)))
  rcases zfree_or (w := w) (prog := prog) zo with ⟨v0, f, hz, zf⟩ | ⟨T, f, oT, hh, hT⟩
  · exact zn_free D hz zf pI pO u1 u2 m1 m2 ex ey fun h' r => wpAny_pure (q h' r)
  · exact zip_next_item_held D hh hT pI u1 u2 m1 m2 ex ey fun h' r1 r2 r3 r4 r5 r6 => wpAny_pure (q h' ⟨.inr ⟨_, _, r1⟩, ⟨a, b, r6 _ _ D.TOz D.TOi1 D.TOi2 pO⟩, r2, r3, r4, r5, fun c o hc _ h1 h2 e => r6 c o hc h1 h2 e⟩)
/-- behind the last of the first list -/
theorem zn_end {Q : Value → Shared → Prop} (ha : A.handled = none) (D : ZipApart z TI TO i1 i2 l1 l2) (zo : ZOk s.heap z TI TO) (pI : IsPair s.heap TI (.ref i1) (.ref i2))
    (u1 : s.heap.IsListIter i1 l1 k1) (u2 : s.heap.IsListIter i2 l2 k2) (m1 : s.heap.IsList l1 xs) (m2 : s.heap.IsList l2 ys) (ex : xs[k1]? = none)
    (q : ∀ h' e, (∀ c o, c ≠ z → c ≠ i1 → c ≠ i2 → s.heap.get? c = some o → h'.get? c = some o) → (∃ o, h'.get? e = some o ∧ o.cls = .type "StopIteration") → E (.ref e) { s with heap := h' }) :
    wpAny (model prog w) A (nextOf (.ref z)) Q E s := by
  obtain ⟨v0, f, hz⟩ := zo.at
  have ty : s.TypeIs (.ref z) "zip" := ⟨_, hz, rfl⟩
  unfold nextOf
  refine wpAny_bind (wpAny_callSpecial?_slot (name := Str.ofString "__next__") ty F.slot_zip_next (wpAny_call_entry F.slot_zip_next ty F.entry_zip_next ?_ (F.args_zip_next_1 _)))
  rcases zfree_or (w := w) (prog := prog) zo with ⟨v0, f, hz, zf⟩ | ⟨T, f, oT, hh, hT⟩
  · show wpAny _ _ (field (.ref z) 2 >>= _) _ _ _
    refine wpAny_bind (wpAny_field hz rfl (x := .bool false) rfl ?_)
    show wpAny _ _ (field (.ref z) 3 >>= _) _ _ _
    refine wpAny_bind (wpAny_field hz rfl (x := .ref TI) rfl (wpAny_bind (wpAny_seqItems pI rfl ?_)))
    show wpAny _ _ (ownedTupleIsFree (.ref z) >>= _) _ _ _
    refine wpAny_bind (zf _ _ _ ?_)
    simp only [if_true]
    refine wpAny_bind (wpAny_rule (wpAny_bind (wpAny_field hz rfl (x := .ref TO) rfl (wpAny_bind (wpAny_setField_rec hz (by simp) fun g1 z1 b1 => ?_)))))
    replace z1 : g1.get? z = some (ZRec .ellipsis f TI TO) := z1
    refine wpAny_bind ?_
    simp only [List.zipIdx_cons, List.zipIdx_nil, List.forIn_cons, List.forIn_nil]
    refine wpAny_bind (wpAny_bind (wpAny_onRaise ?_))
    show wpAny _ _ (nextOf (.ref i1) >>= _) _ _ _
    refine wpAny_bind (wpAny_nextOf_list_end ha (u1.extBut b1.extBut D.i1z) (m1.extBut b1.extBut D.l1z) ex fun g2 e b2 he => ?_)
    obtain ⟨oe, e1, e2⟩ := he
    have z2 : g2.get? z = some (ZRec .ellipsis f TI TO) := b2 _ _ D.i1z.symm z1
    have ne : e ≠ z := fun t => by
      rw [t, z2] at e1
      cases e1
      simp [ZRec] at e2
    exact wpAny_setField_rec z2 (by simp) fun g3 _ b3 => q g3 e (fun c o c1 c2 _ t => b3.extBut _ _ c1 (b2 _ _ c2 (b1.extBut _ _ c1 t))) ⟨oe, b3.extBut _ _ ne e1, e2⟩
  · exact zip_next_end_held ha D hh hT pI u1 u2 m1 m2 (.inl ex) fun h' e k t => q h' e k t
/-- enumerate's next over an iterator that is known by a rule of its own -/
theorem en_item {e it : Addr} {i : Int} {old v : Value} {G : Heap → Prop} {Q : Value → Shared → Prop} (he : IsEnum s.heap e it i old)
    (inner : ∀ R : Value → Shared → Prop, (∀ g, G g → R v { s with heap := g }) → wpAny (model prog w) A (nextOf (.ref it)) R E s) (ge : ∀ g, G g → IsEnum g e it i old)
    (q : ∀ g h', G g → IsEnumOut h' e it (i + 1) v g.objs.size → h'.get? g.objs.size = some { cls := .type "tuple", data := .seq #[.int i s.toks, v] } → h'.objs.size = g.objs.size + 1 → (∀ c o, c ≠ e → g.get? c = some o → h'.get? c = some o) →
      Q (.ref g.objs.size) { s with heap := h', toks := s.toks + 1 }) :
    wpAny (model prog w) A (Builtin.«enumerate.__next__» ⟨[.ref e], []⟩) (fun r s' => ∃ v, r = .done (.ret v) ∧ Q v s') E s := by
  obtain ⟨hp, gn, dr, tk, os⟩ := s
  show wpAny _ _ (field (.ref e) 2 >>= _) _ _ _
  refine wpAny_bind (wpAny_field he rfl (x := .ref it) rfl (wpAny_bind (inner _ fun g gg => ?_)))
  have e1 := ge g gg
  show wpAny _ _ (field (.ref e) 3 >>= _) _ _ ⟨g, gn, dr, tk, os⟩
  refine wpAny_bind (wpAny_field e1 rfl (x := rawInt i) rfl ?_)
  show wpAny _ _ (field (.ref e) 4 >>= _) _ _ ⟨g, gn, dr, tk, os⟩
  refine wpAny_bind (wpAny_field e1 rfl (x := .none) rfl ?_)
  show wpAny _ _ (mkInt i >>= _) _ _ ⟨g, gn, dr, tk, os⟩
  refine wpAny_bind (wpAny_mkInt ?_)
  show wpAny _ _ (setField (.ref e) 3 (rawInt (i + 1)) >>= _) _ _ ⟨g, gn, dr, tk + 1, os⟩
  refine wpAny_bind (wpAny_setField_rec e1 (by simp) fun g2 e2 b2 => ?_)
  replace b2 : Heap.SameBut e g g2 := b2
  replace e2 : IsEnum g2 e it (i + 1) old := e2
  show wpAny _ _ (setField (.ref e) 4 .none >>= _) _ _ ⟨g2, gn, dr, tk + 1, os⟩
  refine wpAny_bind (wpAny_setField_rec e2 (by simp) fun g3 e3 b3 => ?_)
  replace b3 : Heap.SameBut e g2 g3 := b3
  replace e3 : IsEnum g3 e it (i + 1) old := e3
  show wpAny _ _ (newTuple [.int i tk, v] >>= _) _ _ ⟨g3, gn, dr, tk + 1, os⟩
  refine wpAny_bind (wpAny_newTuple ?_)
  have e4 : IsEnum (g3.push { cls := .type "tuple", data := .seq #[.int i tk, v] }) e it (i + 1) old := Heap.get?_push_of_some _ e3
  generalize hg4 : g3.push { cls := .type "tuple", data := .seq #[.int i tk, v] } = g4 at e4
  have sz : g3.objs.size = g.objs.size := by rw [b3.1, b2.1]
  have el : e < g.objs.size := Heap.lt_size e1
  have t4 : g4.get? g.objs.size = some { cls := .type "tuple", data := .seq #[.int i tk, v] } := by
    rw [← hg4, ← sz]
    exact Heap.get?_push_size _ rfl
  have s4 : g4.objs.size = g.objs.size + 1 := by
    rw [← hg4, Heap.size_push, sz]
  have r4 : ∀ c o, c ≠ e → g.get? c = some o → g4.get? c = some o := fun c o ce h => by
    rw [← hg4]
    exact Heap.get?_push_of_some _ (b3.extBut c o ce (b2.extBut c o ce h))
  show wpAny _ _ (ownedTupleIsFree (.ref e) >>= _) _ _ ⟨g4, gn, dr, tk + 1, os⟩
  rw [sz]
  clear hg4 e3 b3 e2 b2 sz
  refine wpAny_bind ?_
  unfold ownedTupleIsFree
  refine wpAny_bind (wpAny_field e4 rfl (x := .none) rfl (wpAny_pure ?_))
  simp only [if_true]
  refine wpAny_bind (wpAny_rule (wpAny_bind (wpAny_field e4 rfl (x := old) rfl (wpAny_bind (wpAny_setField_rec e4 (by simp) fun g5 e5 b5 => ?_)))))
  replace b5 : Heap.SameBut e g4 g5 := b5
  replace e5 : IsEnum g5 e it (i + 1) v := e5
  show wpAny _ _ (Builtin.SmallTypes.ownedTupleHandOut (.ref e) (.ref g.objs.size) >>= _) _ _ ⟨g5, gn, dr, tk + 1, os⟩
  refine wpAny_bind ?_
  unfold Builtin.SmallTypes.ownedTupleHandOut
  refine wpAny_bind (wpAny_setField_rec e5 (by simp) fun g6 e6 b6 => ?_)
  replace b6 : Heap.SameBut e g5 g6 := b6
  replace e6 : IsEnumOut g6 e it (i + 1) v g.objs.size := e6
  refine wpAny_setField_rec e6 (by simp) fun g7 e7 b7 => ?_
  replace b7 : Heap.SameBut e g6 g7 := b7
  have up : ∀ c o, c ≠ e → g4.get? c = some o → g7.get? c = some o := fun c o ce h => b7.extBut c o ce (b6.extBut c o ce (b5.extBut c o ce h))
  refine wpAny_bind (wpAny_letGo (wpAny_pure ⟨_, rfl, q g g7 gg e7 (up _ _ (Nat.ne_of_gt el) t4) ?_ fun c o ce h => up c o ce (r4 c o ce h)⟩))
  rw [b7.1, b6.1, b5.1, s4]
theorem en_next {e it : Addr} {i : Int} {old v : Value} {G : Heap → Prop} {Q : Option Value → Shared → Prop} (he : IsEnum s.heap e it i old)
    (inner : ∀ (A : Around) (E : Value → Shared → Prop) (R : Value → Shared → Prop), (∀ g, G g → R v { s with heap := g }) → wpAny (model prog w) A (nextOf (.ref it)) R E s) (ge : ∀ g, G g → IsEnum g e it i old)
    (q : ∀ g h', G g → IsEnumOut h' e it (i + 1) v g.objs.size → h'.get? g.objs.size = some { cls := .type "tuple", data := .seq #[.int i s.toks, v] } → h'.objs.size = g.objs.size + 1 → (∀ c o, c ≠ e → g.get? c = some o → h'.get? c = some o) →
      Q (some (.ref g.objs.size)) { s with heap := h', toks := s.toks + 1 }) : wpAny (model prog w) A (pyNext (.ref e)) Q E s := by
  have ty : s.TypeIs (.ref e) "enumerate" := ⟨_, he, rfl⟩
  unfold pyNext
  exact wpAny_bind (wpAny_attempt (wpAny_callSpecial?_slot (name := Str.ofString "__next__") ty F.slot_enumerate_next
    (wpAny_call_entry F.slot_enumerate_next ty F.entry_enumerate_next (en_item he (inner _ _) ge fun g h' r1 r2 r3 r4 r5 => wpAny_pure (q g h' r1 r2 r3 r4 r5)) (F.args_enumerate_next_1 _))))
theorem en_end {e it : Addr} {i : Int} {old : Value} {G : Heap → Prop} {Q : Option Value → Shared → Prop} (ha : A.handled = none) (he : IsEnum s.heap e it i old)
    (inner : ∀ (A : Around) (E : Value → Shared → Prop) (R : Value → Shared → Prop), A.handled = none → (∀ g x, G g → (∃ o, g.get? x = some o ∧ o.cls = .type "StopIteration") → E (.ref x) { s with heap := g }) → wpAny (model prog w) A (nextOf (.ref it)) R E s)
    (q : ∀ g, G g → Q none { s with heap := g }) : wpAny (model prog w) A (pyNext (.ref e)) Q E s := by
  have ty : s.TypeIs (.ref e) "enumerate" := ⟨_, he, rfl⟩
  unfold pyNext
  refine wpAny_bind (wpAny_attempt (wpAny_callSpecial?_slot (name := Str.ofString "__next__") ty F.slot_enumerate_next
    (wpAny_call_entry F.slot_enumerate_next ty F.entry_enumerate_next ?_ (F.args_enumerate_next_1 _))))
  show wpAny _ _ (field (.ref e) 2 >>= _) _ _ _
  refine wpAny_bind (wpAny_field he rfl (x := .ref it) rfl (wpAny_bind (inner _ _ _ ha fun g x gg hx => ?_)))
  obtain ⟨o, ho, hc⟩ := hx
  exact wpAny_bind (wpAny_isInstance (T := "StopIteration") (b := true) ⟨o, ho, hc⟩ isSubtype_stop (wpAny_pure (q g gg)))
end
end DR

set_option Elab.async false
set_option linter.all false
set_option maxRecDepth 100000
set_option maxHeartbeats 4000000
namespace DR
open PySem PySem.W PyProof.Rows L2
open PySem.AutoSeq1 (wpAny_loadPart')
/-- pairs of two lists, numbered: as the lists stand at each turn -/
def Itez (K : PySem.W.Frag) (a b : Addr) : It :=
  ⟨fun i H => ∃ (xs ys : List V) (x y : V), SqL K H a xs ∧ SqL K H b ys ∧ xs[i]? = some x ∧ ys[i]? = some y,
    fun i H v H' => ∃ T U x y, v = .ref U ∧ H T = none ∧ H U = none ∧ U ≠ T ∧ H' = upd (upd H T (.tup [x, y])) U (.tup [.int (i : Nat), .ref T]) ∧ (∀ xs, SqL K H a xs → xs[i]? = some x) ∧ ∀ ys, SqL K H b ys → ys[i]? = some y,
    fun i H => ∃ xs ys : List V, SqL K H a xs ∧ SqL K H b ys ∧ xs.length ≤ i⟩
structure EApart (e z TI TO i1 i2 : Addr) : Prop where
  z : e ≠ z
  TI : e ≠ TI
  TO : e ≠ TO
  i1 : e ≠ i1
  i2 : e ≠ i2
def EzSt (e z TI TO i1 i2 a b : Addr) (i : Nat) (h : Heap) : Prop := (∃ old, IsEnum h e z ((i : Nat) : Int) old) ∧ ZOk h z TI TO ∧ IsPair h TI (.ref i1) (.ref i2) ∧ (∃ x y, IsPair h TO x y) ∧ h.IsListIter i1 a i ∧ h.IsListIter i2 b i
theorem turn_ez {P : Program} {w : World} {K : PySem.W.Frag} {elts : List Expr} {kk : Nat} {tpos : Pos} {a b e z TI TO i1 i2 : Addr} (D : ZipApart z TI TO i1 i2 a b) (N : EApart e z TI TO i1 i2) :
    Turn P w K (.Tuple elts kk tpos) (Itez K a b) [e, z, TI, TO, i1, i2] e (EzSt e z TI TO i1 i2 a b) where
  mem := by simp
  obj := fun i h st c hc => by
    obtain ⟨⟨old, he⟩, hz, hI, ⟨x, y, hO⟩, ⟨o1, e1, _, d1⟩, ⟨o2, e2, _, d2⟩⟩ := st
    obtain ⟨v0, f, hz⟩ := hz.at
    have e' : c = e ∨ c = z ∨ c = TI ∨ c = TO ∨ c = i1 ∨ c = i2 := by simpa using hc
    rcases e' with r | r | r | r | r | r
    · exact r ▸ ⟨_, he, fun v t => nomatch t⟩
    · exact r ▸ ⟨_, hz, fun v t => nomatch t⟩
    · exact r ▸ ⟨_, hI, fun v t => nomatch t⟩
    · exact r ▸ ⟨_, hO, fun v t => nomatch t⟩
    · exact r ▸ ⟨o1, e1, fun v t => by rw [d1] at t; cases t⟩
    · exact r ▸ ⟨o2, e2, fun v t => by rw [d2] at t; cases t⟩
  keep := fun i h h' st k => by
    obtain ⟨⟨old, he⟩, hz, hI, ⟨x, y, hO⟩, h1, h2⟩ := st
    refine ⟨⟨old, k e (by simp) _ he⟩, ?_, k TI (by simp) _ hI, ⟨x, y, k TO (by simp) _ hO⟩, h1.at fun o t => k i1 (by simp) o t, h2.at fun o t => k i2 (by simp) o t⟩
    rcases hz with hz | ⟨T, f, hz⟩
    · exact .inl (k z (by simp) _ hz)
    · exact .inr ⟨T, f, k z (by simp) _ hz⟩
  item := by
    intro X hP hw hK hc i pins s σ H E I hf st hg
    subst hP hw hK
    obtain ⟨⟨old, he⟩, hz, hI, ⟨x0, y0, hO⟩, h1, h2⟩ := st
    obtain ⟨xs, ys, x, y, sx, sy, hx, hy⟩ := hg
    obtain ⟨its, rv, p, _⟩ := I.list sx
    obtain ⟨its2, rv2, p2, _⟩ := I.list sy
    obtain ⟨u, hu, ru⟩ := rv.get hx
    obtain ⟨u2, hu2, ru2⟩ := rv2.get hy
    have el : e < s.heap.objs.size := Heap.lt_size he
    have lts : ∀ {c o}, s.heap.get? c = some o → c < s.heap.objs.size := fun t => Heap.lt_size t
    have zl : z < s.heap.objs.size := by
      obtain ⟨v0, f, t⟩ := hz.at
      exact lts t
    have Il : TI < s.heap.objs.size := lts hI
    have Ol : TO < s.heap.objs.size := lts hO
    have il1 : i1 < s.heap.objs.size := by
      obtain ⟨_, t, _⟩ := h1
      exact lts t
    have il2 : i2 < s.heap.objs.size := by
      obtain ⟨_, t, _⟩ := h2
      exact lts t
    refine en_next (v := .ref s.heap.objs.size) (G := ZTo s z TI TO i1 i2 a b i i u u2) he (fun A E R r => zn_item D hz hI hO h1 h2 p.isList p2.isList (x := u) (y := u2) (by simpa using hu) (by simpa using hu2) r) (fun g t => t.rest _ _ N.z N.TO N.i1 N.i2 he) fun g h' t ho hU sz rest => ?_
    have gs : s.heap.objs.size < g.objs.size := by
      rw [t.sz]
      exact Nat.lt_succ_self _
    have eg : e < g.objs.size := Nat.lt_trans el gs
    refine ⟨_, rfl, wpAny_letOwnedTupleGo_enum (s := { s with heap := h', toks := s.toks + 1 }) ho fun h'' he' sb => ?_⟩
    -- the zip's tuple
    have newT : ObjOk X.prog X.w (upd H s.heap.objs.size (.tup [x, y])) g s.heap.objs.size (.tup [x, y]) := ⟨by show 2 ≤ sizeLine; decide, [u, u2], .cons ru (.cons ru2 .nil), ⟨_, t.new, rfl, _, rfl⟩⟩
    have I1 : Inv X pins σ (upd H s.heap.objs.size (.tup [x, y])) { s with heap := g } :=
      I.turnedNew (t' := s.toks) (ch := [e, z, TI, TO, i1, i2]) (fun c o hb q => t.rest c o (fun r => hb (by simp [r])) (fun r => hb (by simp [r])) (fun r => hb (by simp [r])) (fun r => hb (by simp [r])) q) hf (Nat.le_refl _) newT
    have hf1 : ∀ c ∈ [e, z, TI, TO, i1, i2], FpOk X pins (upd H s.heap.objs.size (.tup [x, y])) c := fun c hc => by
      have cl : c < s.heap.objs.size := by
        have e' : c = e ∨ c = z ∨ c = TI ∨ c = TO ∨ c = i1 ∨ c = i2 := by simpa using hc
        rcases e' with r | r | r | r | r | r <;> rw [r] <;> assumption
      have q := hf c hc
      exact ⟨by rw [upd_ne (Nat.ne_of_lt cl)]; exact q.1, q.2⟩
    have U2 : h''.get? g.objs.size = some { cls := .type "tuple", data := .seq #[.int i s.toks, .ref s.heap.objs.size] } := (sb.2 _ (Nat.ne_of_gt eg)).trans hU
    have newU : ObjOk X.prog X.w (upd (upd H s.heap.objs.size (.tup [x, y])) g.objs.size (.tup [.int (i : Nat), .ref s.heap.objs.size])) h'' g.objs.size (.tup [.int (i : Nat), .ref s.heap.objs.size]) :=
      ⟨by show 2 ≤ sizeLine; decide, [.int i s.toks, .ref s.heap.objs.size], .cons ⟨_, rfl⟩ (.cons rfl .nil), ⟨_, U2, rfl, _, rfl⟩⟩
    have I2 : Inv X pins σ (upd (upd H s.heap.objs.size (.tup [x, y])) g.objs.size (.tup [.int (i : Nat), .ref s.heap.objs.size])) { s with heap := h'', toks := s.toks + 1 } :=
      Inv.turnedNew (s := { s with heap := g }) (t' := s.toks + 1) (ch := [e, z, TI, TO, i1, i2]) I1 (fun c o hb q => (sb.2 c (fun r => hb (by simp [r]))).trans (rest c o (fun r => hb (by simp [r])) q)) hf1 (Nat.le_refl _) newU
    refine ⟨.ref g.objs.size, _, I2, rfl, ⟨_, _, x, y, rfl, I.hok.fresh (Nat.le_refl _), I.hok.fresh (Nat.le_of_lt gs), Nat.ne_of_gt gs, rfl, fun ys hy => by rw [I.list_inj hy sx]; exact hx, fun l hl => by rw [I.list_inj hl sy]; exact hy⟩, ⟨⟨.ref s.heap.objs.size, ?_⟩, ?_, ?_, ?_, ?_, ?_⟩, fun c hc => ?_⟩
    · have e1 : ((i + 1 : Nat) : Int) = (i : Int) + 1 := by omega
      rw [e1]
      exact he'
    · have up : ∀ o, g.get? z = some o → h''.get? z = some o := fun o q => (sb.2 _ N.z.symm).trans (rest _ _ N.z.symm q)
      rcases t.ok with r | ⟨T, f, r⟩
      · exact .inl (up _ r)
      · exact .inr ⟨T, f, up _ r⟩
    · exact (sb.2 _ N.TI.symm).trans (rest _ _ N.TI.symm (t.rest _ _ D.TIz D.TITO D.TIi1 D.TIi2 hI))
    · obtain ⟨a', b', q⟩ := t.pr
      exact ⟨a', b', (sb.2 _ N.TO.symm).trans (rest _ _ N.TO.symm q)⟩
    · exact (t.one.at fun o q => (rest _ o N.i1.symm q)).at fun o q => (sb.2 _ N.i1.symm).trans q
    · exact (t.two.at fun o q => (rest _ o N.i2.symm q)).at fun o q => (sb.2 _ N.i2.symm).trans q
    · have cl : c < s.heap.objs.size := by
        have e' : c = e ∨ c = z ∨ c = TI ∨ c = TO ∨ c = i1 ∨ c = i2 := by simpa using hc
        rcases e' with r | r | r | r | r | r <;> rw [r] <;> assumption
      rw [upd_ne (Nat.ne_of_lt (Nat.lt_trans cl gs)), upd_ne (Nat.ne_of_lt cl)]
      exact (hf c hc).1
  done := by
    intro X hP hw hK hc i pins s σ H E I hf st hg
    subst hP hw hK
    obtain ⟨⟨old, he⟩, hz, hI, ⟨x0, y0, hO⟩, h1, h2⟩ := st
    obtain ⟨xs, ys, sx, sy, hle⟩ := hg
    obtain ⟨its, rv, p, _⟩ := I.list sx
    obtain ⟨its2, rv2, p2, _⟩ := I.list sy
    have ll := rv.length
    exact en_end (G := fun g => ∀ c o, c ≠ z → c ≠ i1 → c ≠ i2 → s.heap.get? c = some o → g.get? c = some o) (I.ok.hd hc) he (fun A E R ha r => zn_end ha D hz hI h1 h2 p.isList p2.isList (by simp; omega) fun h' x k t => r h' x k t)
      fun g k => ⟨rfl, I.turnedL (t' := s.toks) (ch := [e, z, TI, TO, i1, i2]) (fun c o hb q => k c o (fun r => hb (by simp [r])) (fun r => hb (by simp [r])) (fun r => hb (by simp [r])) q) hf⟩
  self := fun A i s Q E st h => let ⟨⟨_, he⟩, _⟩ := st; wpAny_pyIter_enum he h
theorem meets_en_zip (z TI TO : Addr) :
    Meets (Builtin.«enumerate.__new__» ⟨[.type "enumerate", .ref z], []⟩) (fun _ R s => IsZip s.heap z TI TO .none ∧
      R (.ok (.ret (.ref s.heap.objs.size))) { s with heap := s.heap.push { cls := .type "enumerate", data := .fields #[.none, .bool false, .ref z, rawInt 0, .none, .none] } }) :=
  .of_wp fun prog w A R s h => by
    obtain ⟨hp, g, d, tk, os⟩ := s
    obtain ⟨hz, h⟩ := h
    have hsub := sub_enumerate
    have it : ∀ {A' : Around} {E : Value → Shared → Prop} {Q : Value → Shared → Prop}, Q (.ref z) ⟨hp, g, d, tk, os⟩ → wpAny (model prog w) A' (pyIter (.ref z)) Q E ⟨hp, g, d, tk, os⟩ := fun q => wpAny_pyIter_zip hz q
    wp_walk using it
    refine wpAny_stack_any fun st => wpAny_pure ?_
    split
    · rename_i c _ _ _ _ _
      cases (c == Value.type "enumerate")
      · wp_walk using it
        exact ⟨_, rfl, h⟩
      · wp_walk using it
        exact ⟨_, rfl, h⟩
    · wp_walk using it
      exact ⟨_, rfl, h⟩
theorem call_en_zip {prog : Program} {w : World} {A : Around} {E : Value → Shared → Prop} {s : Shared} {z TI TO : Addr} {Q : Value → Shared → Prop} (hz : IsZip s.heap z TI TO .none)
    (q : ∀ h', IsEnum h' s.heap.objs.size z 0 .none → h'.objs.size = s.heap.objs.size + 1 → (∀ b o, s.heap.get? b = some o → h'.get? b = some o) → Q (.ref s.heap.objs.size) { s with heap := h' }) :
    wpAny (model prog w) A (call (.type "enumerate") [.ref z]) Q E s := by
  refine callType_new F.called_enumerate (by decide) (F.typeCall_enumerate_1 _) (F.newCall_enumerate_1 _) (fun obj => F.args_object_init_2 obj _) F.entry_enumerate_new (meets_en_zip z TI TO) ⟨hz, ?_⟩
  have he : IsEnum (s.heap.push { cls := .type "enumerate", data := .fields #[.none, .bool false, .ref z, rawInt 0, .none, .none] }) s.heap.objs.size z 0 .none := Heap.get?_push_size _ rfl
  exact ⟨⟨_, he, rfl⟩, q _ he (Heap.size_push ..) fun b o x => Heap.get?_push_of_some _ x⟩
def iEz (K : PySem.W.Frag) (ta : TA) : TI := fun σ H R => ta σ H fun vs H1 => ∃ a b xs ys, vs = [.ref a, .ref b] ∧ SqL K H1 a xs ∧ SqL K H1 b ys ∧ R (Itez K a b) H1
theorem pi_enumzip {X : Cx} {e e2 : Expr} {ta : TA} {p pos p2 pos2 tpos : Pos} {elts : List Expr} {kk : Nat} (hg : Gl X "enumerate") (hm : X.mg "enumerate" = none) (hg2 : Gl X "zip") (hm2 : X.mg "zip" = none) (ha : PA X [e, e2] ta)
    (hs1 : starEach [.Call (.Name "zip" p2) [e, e2] [] pos2] X.env = [(false, eval (.Call (.Name "zip" p2) [e, e2] [] pos2) X.env)] := by rfl)
    (hs : starEach [e, e2] X.env = (false, eval e X.env) :: starEach [e2] X.env := by rfl) (hpl : (backTo pos2 (starEach [e2] X.env)).any (·.1) = false := by rfl) :
    PI X (.Tuple elts kk tpos) (.Call (.Name "enumerate" p) [.Call (.Name "zip" p2) [e, e2] [] pos2] [] pos) (iEz X.K ta) := by
  refine ⟨fun pins s σ H R I h => ?_⟩
  refine Call_ (ld_blt I hg hm boot_enumerate (PyProof.Rows.callWith_type1 ?_ hs1 rfl))
  rw [hs1]
  show wpAny _ _ (spliced ((false, eval (.Call (.Name "zip" p2) [e, e2] [] pos2) X.env) :: backTo pos [])) _ _ s
  refine Calls.spliced_cons ?_
  refine Call_ (ld_blt I hg2 hm2 PyProof.Rows.boot_zip (PyProof.Rows.callWith_type1 (thn (ha.run pos2 pins s σ H _ I h) fun us s1 ⟨vs, H1, I1, r1, q1⟩ => ?_) hs hpl))
  obtain ⟨a, b, xs, ys, ex, sx, sy, q⟩ := q1
  subst ex
  cases r1 with
  | cons r rr =>
    cases rr with
    | cons r' rr =>
      cases rr
      cases r
      cases r'
      obtain ⟨its, rv, l1, _⟩ := I1.list sx
      obtain ⟨its2, rv2, l2, _⟩ := I1.list sy
      refine call_zip_2 l1.isList l2.isList fun h' hz hI hO h1 h2 sz k => ?_
      refine Calls.spliced_nil ?_
      refine call_en_zip (s := { s1 with heap := h' }) hz fun g he sg kg => wpAny_pyIter_enum he ?_
      have I2 : Inv X pins σ H1 { s1 with heap := g } := I1.kept (t' := s1.toks) fun b u t => kg b u (k b u t)
      have se : h'.objs.size = s1.heap.objs.size + 5 := sz
      have N : EApart h'.objs.size (s1.heap.objs.size + 4) (s1.heap.objs.size + 2) (s1.heap.objs.size + 3) s1.heap.objs.size (s1.heap.objs.size + 1) := by
        rw [se]
        constructor <;> (refine PySem.W.neN ?_; omega)
      refine ⟨h'.objs.size, [h'.objs.size, s1.heap.objs.size + 4, s1.heap.objs.size + 2, s1.heap.objs.size + 3, s1.heap.objs.size, s1.heap.objs.size + 1], _, _, H1, rfl, I2, turn_ez (PySem.W.ktu_apart s1.heap.objs.size a b l1.lt l2.lt) N,
        ⟨⟨.none, he⟩, .inl (kg _ _ hz), kg _ _ hI, ⟨_, _, kg _ _ hO⟩, h1.at fun o t => kg _ o t, h2.at fun o t => kg _ o t⟩, fun c hc => ?_, q⟩
      have hle : s1.heap.objs.size ≤ c := by
        have e' : c = h'.objs.size ∨ c = s1.heap.objs.size + 4 ∨ c = s1.heap.objs.size + 2 ∨ c = s1.heap.objs.size + 3 ∨ c = s1.heap.objs.size ∨ c = s1.heap.objs.size + 1 := by simpa using hc
        rcases e' with z | z | z | z | z | z
        · rw [z, se]
          exact Nat.le_add_right _ _
        · rw [z]
          exact Nat.le_add_right _ _
        · rw [z]
          exact Nat.le_add_right _ _
        · rw [z]
          exact Nat.le_add_right _ _
        · rw [z]
          exact Nat.le_refl _
        · rw [z]
          exact Nat.le_add_right _ _
      exact I1.fpOk hle (I1.hok.fresh hle)
end DR

set_option Elab.async false
set_option linter.all false
set_option maxRecDepth 100000
set_option maxHeartbeats 4000000
/-! ### orders in the store -/
namespace DR
open PySem PySem.Spec PyProof.Rows L2
theorem di_eqv (ns ms : List Int) : PyData.eqv (.list (ns.map .int)) (.list (ms.map .int)) = decide (ns = ms) := by
  have key : ∀ ns ms : List Int, PyData.eqvAll (ns.map .int) (ms.map .int) = decide (ns = ms) := by
    intro ns
    induction ns with
    | nil =>
      intro ms
      cases ms <;> simp [PyData.eqvAll]
    | cons p ns ih =>
      intro ms
      cases ms with
      | nil => simp [PyData.eqvAll]
      | cons q ms =>
        rw [List.map_cons, List.map_cons]
        rw [Bool.eq_iff_iff]
        simp [PyData.eqvAll, ih, PyData.eqv]
  rw [← key ns ms]
  simp [PyData.eqv]
theorem di_lay : ∀ ns : List Int, PyData.canLayAll0 (ns.map .int) = true
  | [] => by simp [PyData.canLayAll0]
  | p :: ns => by simp [PyData.canLayAll0, PyData.canLay0, di_lay ns]
theorem di_depth : ∀ ns : List Int, PyData.depthAll (ns.map .int) = 0
  | [] => by simp [PyData.depthAll]
  | p :: ns => by simp [PyData.depthAll, PyData.depth, di_depth ns]
theorem di_shaped (ns : List Int) : SeqAt.shaped (.list (ns.map .int)) = true := by
  have := di_depth ns
  simp [SeqAt.shaped, PyData.canLay0, di_lay, PyData.depth]
  omega
theorem di_all {K : PySem.W.Frag} {H : Hp} : ∀ ns : List Int, DpAll K H (ns.map V.int) (ns.map .int)
  | [] => .nil
  | n :: ns => .cons (.int n) (di_all ns)
theorem di_dp {K : PySem.W.Frag} {H : Hp} {l : Addr} {ns : List Int} (h : SqL K H l (ns.map V.int)) : Dp K H (.ref l) (.list (ns.map .int)) := .lst h (di_all ns)
/-- the numbers from 0 on -/
def upTo (n : Nat) : List Int := (List.range n).map fun i : Nat => (i : Int)
theorem rgV_upTo (n : Nat) : rgV 0 (n : Int) = (upTo n).map V.int := by
  unfold rgV upTo
  rw [List.map_map, Int.sub_zero, Int.toNat_natCast]
  refine List.map_congr_left fun i _ => ?_
  show V.int (0 + (i : Int)) = V.int (i : Int)
  rw [Int.zero_add]
theorem upTo_len (n : Nat) : (upTo n).length = n := by simp [upTo]
theorem upTo_sorted (n : Nat) : (upTo n).Pairwise (· ≤ ·) := by
  unfold upTo
  rw [List.pairwise_map]
  exact (List.pairwise_lt_range (n := n)).imp fun h => by omega
theorem upTo_nodup (n : Nat) : (upTo n).Nodup := by
  unfold upTo
  refine List.Pairwise.map _ (fun a b h => ?_) List.nodup_range
  omega
def IsOrd (n : Nat) (os : List Int) : Prop := os.Perm (upTo n)
theorem IsOrd.len {n : Nat} {os : List Int} (h : IsOrd n os) : os.length = n := by
  rw [List.Perm.length_eq h, upTo_len]
theorem sorted_eq : ∀ {a b : List Int}, a.Perm b → a.Pairwise (· ≤ ·) → b.Pairwise (· ≤ ·) → a = b
  | [], b, p, _, _ => (List.nil_perm.mp p).symm
  | x :: a, b, p, ha, hb => by
    cases b with
    | nil => exact absurd p.symm (by simp)
    | cons y b =>
      have hx : ∀ z ∈ x :: a, x ≤ z := fun z hz => by
        rcases List.mem_cons.mp hz with e | e
        · omega
        · exact (List.pairwise_cons.mp ha).1 z e
      have hy : ∀ z ∈ y :: b, y ≤ z := fun z hz => by
        rcases List.mem_cons.mp hz with e | e
        · omega
        · exact (List.pairwise_cons.mp hb).1 z e
      have e : x = y := by
        have h1 := hx y (p.mem_iff.mpr List.mem_cons_self)
        have h2 := hy x (p.mem_iff.mp List.mem_cons_self)
        omega
      subst e
      rw [sorted_eq ((List.perm_cons _).mp p) (List.pairwise_cons.mp ha).2 (List.pairwise_cons.mp hb).2]
theorem IsOrd.sort {n : Nat} {os ns : List Int} (h : IsOrd n os) (p : ns.Perm os) (s : ns.Pairwise (· ≤ ·)) : ns = upTo n := sorted_eq (p.trans h) s (upTo_sorted n)
theorem IsOrd.perm {n : Nat} {os ns : List Int} (h : IsOrd n os) (p : ns.Perm os) : IsOrd n ns := List.Perm.trans p h
/-- over the pairs of two lists, numbered -/
theorem lc_ez {K : PySem.W.Frag} {a b : Addr} {xs ys : List V} {g : TG} {tt : TT} {te : TE} {vs : List Nat} {σ : L2.St} {H1 : Hp} {D : Addr} {Qd : Hp → Prop} (Pv : Nat → Hp → Prop) (h0 : Pv 0 (upd H1 D (.lst [])))
    (hl : ∀ i H, i ≤ xs.length → Pv i H → SqL K H a xs ∧ SqL K H b ys) (ly : ys.length = xs.length)
    (hs : ∀ i x y H T U, xs[i]? = some x → ys[i]? = some y → Pv i H → H T = none → H U = none → U ≠ T → g (.ref U) (wipe σ vs) (upd (upd H T (.tup [x, y])) U (.tup [.int (i : Nat), .ref T])) fun σ2 H2 => wipe σ2 vs = wipe σ vs ∧ tt σ2 H2 fun b H3 =>
      if b = true then te σ2 H3 fun y H4 => ∃ acc, H4 D = some (.lst acc) ∧ acc.length < sizeLine ∧ Pv (i + 1) (upd H4 D (.lst (acc ++ [y]))) else Pv (i + 1) H3) (hd : ∀ H, Pv xs.length H → Qd H) :
    ∃ W : Nat → Nat → Hp → Prop, (∃ m, W 0 m (upd H1 D (.lst []))) ∧ ∀ i m H, W i m H →
      ((Itez K a b).stop i H ∧ Qd H) ∨ ((Itez K a b).go i H ∧ ∃ Nx : Hp → Prop, (∀ H', Nx H' → ∃ m', m' < m ∧ W (i + 1) m' H') ∧ ∀ x H', (Itez K a b).yld i H x H' → g x (wipe σ vs) H' fun σ2 H2 => wipe σ2 vs = wipe σ vs ∧ tt σ2 H2 fun b H3 =>
        if b = true then te σ2 H3 fun y H4 => ∃ acc, H4 D = some (.lst acc) ∧ acc.length < sizeLine ∧ Nx (upd H4 D (.lst (acc ++ [y]))) else Nx H3) := by
  refine ⟨fun i m H => m = xs.length - i ∧ i ≤ xs.length ∧ Pv i H, ⟨xs.length, by simp, Nat.zero_le _, h0⟩, ?_⟩
  rintro i m H ⟨rfl, hi, p⟩
  obtain ⟨q1, q2⟩ := hl i H hi p
  by_cases hlt : i < xs.length
  · refine .inr ⟨⟨xs, ys, xs[i], ys[i]'(by omega), q1, q2, by simp [hlt], by simp⟩, Pv (i + 1), fun H' p' => ⟨xs.length - (i + 1), by omega, rfl, hlt, p'⟩, fun v H' y => ?_⟩
    obtain ⟨T, U, x, y, rfl, hT, hU, ne, rfl, hx, hy⟩ := y
    exact hs i x y H T U (hx xs q1) (hy ys q2) p hT hU ne
  · have e : i = xs.length := by omega
    subst e
    exact .inl ⟨⟨xs, ys, q1, q2, Nat.le_refl _⟩, hd H p⟩
theorem cut_to (xs : List V) (k : Nat) : cutV xs none (some (k : Int)) = xs.take k := by
  unfold cutV
  rw [HT.sIx_nat, HT.sIx_none, Nat.sub_zero, List.drop_zero]
  by_cases h : k ≤ xs.length
  · rw [Nat.min_eq_left h]
  · rw [Nat.min_eq_right (by omega), List.take_of_length_le (Nat.le_refl _), List.take_of_length_le (by omega)]
/-- an order stands there -/
def OrdAt (H : Hp) (l : Addr) (os : List Int) : Prop := H l = some (.lst (os.map V.int))
theorem OrdAt.same {H H' : Hp} {l : Addr} {os : List Int} (h : OrdAt H l os) (s : Same H H') : OrdAt H' l os := s _ _ h
theorem OrdAt.sq {K : PySem.W.Frag} {H : Hp} {l : Addr} {os : List Int} (h : OrdAt H l os) : SqL K H l (os.map V.int) := SqL.of h
theorem OrdAt.at_ {H : Hp} {l : Addr} {os : List Int} (_ : OrdAt H l os) {i : Nat} (hi : i < os.length) : atI (os.map V.int) (i : Int) = some (.int (os.getD i 0)) := by
  refine atI_nat ?_
  rw [List.getElem?_map, List.getElem?_eq_getElem hi, List.getD_eq_getElem?_getD, List.getElem?_eq_getElem hi]
  rfl
theorem OrdAt.atI_end {H : Hp} {l : Addr} {os : List Int} (_ : OrdAt H l os) (h : 0 < os.length) : atI (os.map V.int) (-1) = some (.int (os.getD (os.length - 1) 0)) := by
  have e : os = os.dropLast ++ [os.getD (os.length - 1) 0] := by
    have ne : os ≠ [] := fun z => by
      rw [z] at h
      cases h
    have := (List.dropLast_concat_getLast ne).symm
    rw [List.getLast_eq_getElem] at this
    rw [List.getD_eq_getElem?_getD, List.getElem?_eq_getElem (by omega)]
    exact this
  have e2 : os.map V.int = os.dropLast.map V.int ++ [V.int (os.getD (os.length - 1) 0)] := by
    conv => lhs; rw [e]
    rw [List.map_append]
    rfl
  rw [e2, atI_last]
/-- a number or None -/
def optV : Option Nat → V
  | none => .non
  | some b => .int (b : Int)
end DR

set_option Elab.async false
set_option linter.all false
set_option maxRecDepth 100000
set_option maxHeartbeats 4000000
namespace DR
open PySem PySem.Spec PyProof.Rows L2
section
variable {P : Program} {w : World} {K : PySem.W.Frag} {mg : Str → Option Value} {base : Heap}
/-! ### all pairs -/
def spPairs : Sp := fun vs H Q _ => ∃ (n : Nat), vs = [.int (n : Int)] ∧ n ≤ 30 ∧ ∀ H' l, Same H H' → H l = none → PairsAt H' l (pairsOf n) → Q (.ref l) H'
theorem scPairs : FnScope ["_law_many", "_law_found", "_law_one", "_law_other"] ["_law_many"] (defScope s__law_pairs) := ⟨rfl, rfl, rfl, by decide +kernel, rfl, by decide +kernel, by decide +kernel⟩
theorem has_pairs (D : IsDef K mg "_law_pairs" s__law_pairs) (B : Blt mg) : Has P w K mg base 1 "_law_pairs" ["_law_many"] spPairs := by
  refine has_of D scPairs (fun _ _ _ _ _ _ us hl => match us, hl with | [_], _ => rfl) (fun vs H Q E h => ?_) (fun f cdv A outer s H vs Q E hr h => ?_)
  · obtain ⟨n, rfl, _⟩ := h
    rfl
  · obtain ⟨n, rfl, hn, q⟩ := h
    refine ⟨_, pss_cons (ps_set (i := 1) scPairs.nd rfl (.inl rfl) (pe_lst pa_nil))
      (pss_cons (ps_for PassesOwn.never rfl (pi_range1 (by rfl) B.range (pa_cons (pv 0) pa_nil)) (pg_name (i := 2) scPairs.nd rfl (.inr rfl))
        (pss_one (ps_set (i := 1) scPairs.nd rfl (.inl rfl) (pe_op op_cat (pv 1)
          (pe_lc (own := [("_law_other", 3)]) (g := gName 3) (tt := tYes) (by rfl) scPairs.nd (pi_range2 (by rfl) B.range (pa_cons (pe_op op_add (pv 2) pe_int) (pa_cons (pv 0) pa_nil))) (blkOk_by (N := ["_law_many", "_law_found", "_law_one", "_law_other"]) (sc := defScope s__law_pairs) (by decide +kernel))
            (fun _ _ _ _ _ => pg_name (i := 3) scPairs.nd rfl (.inl rfl)) (fun _ _ _ _ _ => pts_nil) (fun _ _ _ _ _ => pe_tup (pa_cons (pv 2) (pa_cons (pv 3) pa_nil))))))))
      (pss_one (ps_ret (pv 1)))), ?_⟩
    refine ⟨by show 0 ≤ sizeLine; decide, fun l0 n0 => ?_⟩
    refine ⟨_, rfl, (n : Int), rfl, by omega, by omega, ?_⟩
    rw [Int.toNat_natCast]
    refine for_range (lo := 0) (n := n) (fun i σ H2 => ∃ (l : Addr) (a b : Option V), σ = [some (.int (n : Int)), some (.ref l), a, b] ∧ Same H H2 ∧ H l = none ∧ PairsAt H2 l (pairsTo n i)) ⟨l0, none, none, rfl, same_new n0, n0, [], upd_same, .nil⟩ ?_ ?_
    · rintro i σ H2 hi ⟨l, a, b, rfl, s2, nl, as, el, ta⟩
      refine ⟨_, rfl, _, rfl, _, _, rfl, rfl, _, rfl, _, _, rfl, ⟨by omega, by omega, by omega, by omega⟩, fun D nD => ?_⟩
      have e0 : ((n : Int) - (0 + (i : Int) + 1)).toNat = n - (i + 1) := by omega
      rw [e0]
      refine lc_range (lo := 0 + (i : Int) + 1) (n := n - (i + 1)) (fun j H3 => ∃ bs : List Addr, Kp D H2 H3 ∧ H3 D = some (.lst (bs.map V.ref)) ∧ TupsAt H3 bs ((rowOf n i).take j)) ⟨[], Kp.put _ _ _, upd_same, .nil⟩ ?_ ?_
      · rintro j H3 hj ⟨bs, kp, eD, tb⟩
        refine ⟨rfl, _, rfl, _, rfl, (by show 2 ≤ sizeLine; decide), fun t nt => ?_⟩
        have nDt : D ≠ t := ne_of_none eD nt
        have hl := tb.length
        rw [List.length_take, rowOf_len] at hl
        refine ⟨bs.map V.ref, (upd_ne nDt).trans eD, ?_, bs ++ [t], fun b o nb e => ?_, ?_, ?_⟩
        · rw [List.length_map]
          exact small1000 (by omega)
        · rw [upd_ne nb]
          exact same_new nt b o (kp b o nb e)
        · rw [upd_same]
          simp
        · rw [rowOf_take n i j hj]
          refine TupsAt.lst (TupsAt.append (tb.new nt) (.cons ?_ .nil)) ((upd_ne nDt).trans eD)
          rw [upd_same, Int.zero_add]
      · rintro H3 ⟨bs, kp, eD, tb⟩
        have nlD : l ≠ D := ne_of_none el nD
        have el3 := kp l _ nlD el
        have hb := tb.length
        have ha := ta.length
        have hp := pairsTo_len n i
        have hin : i * n ≤ 30 * 30 := Nat.mul_le_mul (by omega) hn
        rw [List.length_take, rowOf_len] at hb
        rw [List.take_of_length_le (by rw [rowOf_len]; exact Nat.le_refl _)] at tb
        refine ⟨l, D, _, _, rfl, rfl, el3, eD, ?_, fun p np => ?_⟩
        · rw [List.length_map, List.length_map, sizeLine_eq]
          omega
        · have s3 : Same H2 H3 := fun b o e => kp b o (ne_of_none e nD) e
          refine ⟨p, _, _, rfl, s2.trans (s3.trans (same_new np)), s2.free (s3.free np), as ++ bs, ?_, ?_⟩
          · rw [upd_same]
            simp
          · rw [pairsTo_succ]
            exact ((ta.same s3).append tb).new np
    · rintro σ H2 ⟨l, a, b, rfl, s2, nl, hp⟩
      exact ⟨_, rfl, q H2 l s2 nl hp⟩
end
end DR

set_option Elab.async false
set_option linter.all false
set_option maxRecDepth 100000
set_option maxHeartbeats 4000000
namespace DR
open PySem PySem.Spec PyProof.Rows L2
section
variable {P : Program} {w : World} {K : PySem.W.Frag} {mg : Str → Option Value} {base : Heap}
/-! ### a drawn yard -/
def spYard : Sp := fun vs H Q _ => ∃ (d : Addr) (lo hi : Nat), vs = [.ref d, .int (lo : Int), .int (hi : Int)] ∧ DiceAt H d ∧ 1 ≤ lo ∧ lo ≤ hi ∧ hi ≤ 30 ∧
  ∀ H' t tl n ps, Kp d H H' → DiceAt H' d → H t = none → H tl = none → H' t = some (.tup [.int ((n : Nat) : Int), .ref tl]) → PairsAt H' tl ps → Ties n ps → lo ≤ n → n ≤ hi → Q (.ref t) H'
abbrev nYard : List Str := ["_law_d", "_law_least", "_law_most", "_law_many", wayN, "_law_ties", "_law_half", "_law_middle", "_law_sides", "_law_pair", "_law_place"]
theorem scYard : FnScope nYard ["_law_d", "_law_least", "_law_most"] (defScope s__law_yard) := ⟨rfl, rfl, rfl, by decide +kernel, rfl, by decide +kernel, by decide +kernel⟩
/-- the frame between the statements -/
def WYard (d : Addr) (H : Hp) (n : Nat) (lo hi : Int) (way : Int) (σ : L2.St) (H' : Hp) : Prop := ∃ (tl : Addr) (ps : List (Int × Int)) (x6 x7 x8 x9 x10 : Option V), σ = [some (.ref d), some (.int lo), some (.int hi), some (.int (n : Int)), some (.int way), some (.ref tl), x6, x7, x8, x9, x10] ∧
  Kp d H H' ∧ DiceAt H' d ∧ H tl = none ∧ PairsAt H' tl ps ∧ Ties n ps
theorem has_yard (D : IsDef K mg "_law_yard" s__law_yard) (B : Blt mg) (O : Has P w K mg base 1 "_law_off" ["_law_d", "_law_most"] spOff) (PR : Has P w K mg base 1 "_law_pairs" ["_law_many"] spPairs) (M : Has P w K mg base 2 "_law_mixed" ["_law_d", "_law_row"] (spMixed K)) :
    Has P w K mg base 3 "_law_yard" ["_law_d", "_law_least", "_law_most"] spYard := by
  refine has_of D scYard (fun _ _ _ _ _ _ us hl => match us, hl with | [_, _, _], _ => rfl) (fun vs H Q E h => ?_) (fun f cdv A outer s H vs Q E hr h => ?_)
  · obtain ⟨d, lo, hi, rfl, _⟩ := h
    rfl
  · obtain ⟨d, lo, hi, rfl, hd, h1, h2, h3, q⟩ := h
    have blk : ∀ {scope : Scope} {i : Nat} {x : Str}, blkC nYard (defScope s__law_yard) scope [(x, i)] = true → BlkOk nYard (defScope s__law_yard) scope [(x, i)] := fun h => blkOk_by h
    refine ⟨_, pss_cons (ps_set (i := 3) scYard.nd rfl (.inl rfl) (pe_op op_add (pv 1) (pe_has O hr (by decide) (by rfl) (pa_cons (pv 0) (pa_cons (pe_op op_add (pe_op op_sub (pv 2) (pv 1)) pe_int) pa_nil)))))
      (pss_cons (ps_set (i := 4) scYard.nd rfl (.inr rfl) (pe_has O hr (by decide) (by rfl) (pa_cons (pv 0) (pa_cons pe_int pa_nil))))
      (C8.pss_cut (ps_setLc (i := 5) (own := [("_law_pair", 9)]) (g := gName 9) (by rfl) scYard.nd rfl rfl (sw_true rfl rfl rfl (by decide +kernel)) (pi_list (pe_has PR hr (by decide) (by rfl) (pa_cons (pv 3) pa_nil))) (blk (by decide +kernel)) (fun _ _ _ _ _ => pg_name (i := 9) scYard.nd rfl (.inl rfl))
          (fun _ _ _ _ _ => pts_one (pt_cmpR op_lt (pe_has O hr (by decide) (by rfl) (pa_cons (pv 0) (pa_cons pe_int pa_nil))) (pe_ix (r := rIxL K) ix_list (pe_lst (pa_cons pe_int (pa_cons pe_int (pa_cons pe_int (pa_cons pe_int (pa_cons pe_int (pa_cons pe_int (pa_cons pe_int pa_nil)))))))) (pv 4) (fun _ _ => rfl)) (nomark _))) (fun _ _ _ _ _ => pv 9))
      (C8.pss_cut (ps_if (pt_cmpR op_eq (pv 4) pe_int (nomark _))
        (pss_one (ps_set (i := 5) scYard.nd rfl (.inl rfl) (pe_slice sl_list (pe_has M hr (by decide) (by rfl) (pa_cons (pv 0) (pa_cons (pv 5) pa_nil))) (po_some (pe_has O hr (by decide) (by rfl) (pa_cons (pv 0) (pa_cons pe_int pa_nil)))) po_none))) pss_nil)
      (C8.pss_cut (ps_if (pt_cmpR op_eq (pv 4) pe_int (nomark _))
        (pss_cons (ps_set (i := 6) scYard.nd rfl (.inr rfl) (pe_op op_fdivN (pv 3) pe_int))
        (pss_one (ps_setLc (i := 5) (own := [("_law_pair", 9)]) (g := gName 9) (by rfl) scYard.nd rfl rfl (sw_true rfl rfl rfl (by decide +kernel)) (pi_list (pe_has PR hr (by decide) (by rfl) (pa_cons (pv 3) pa_nil))) (blk (by decide +kernel)) (fun _ _ _ _ _ => pg_name (i := 9) scYard.nd rfl (.inl rfl))
          (fun _ _ _ _ _ => pts_one (PW.pt (pw_and (pt_cmpR op_lt (pe_ix (r := rIxT K) ix_tup (pv 9) pe_int (fun _ _ => rfl)) (pv 6) (nomark _)) (pw_and1 (pt_cmpR op_ge (pe_ix (r := rIxT K) ix_tup (pv 9) pe_int (fun _ _ => rfl)) (pe_op op_sub (pv 6) (pe_has O hr (by decide) (by rfl) (pa_cons (pv 0) (pa_cons pe_int pa_nil)))) (nomark _)))))) (fun _ _ _ _ _ => pv 9)))) pss_nil)
      (C8.pss_cut (ps_if (pt_cmpR op_eq (pv 4) pe_int (nomark _))
        (pss_cons (ps_set (i := 7) scYard.nd rfl (.inr rfl) (pe_has O hr (by decide) (by rfl) (pa_cons (pv 0) (pa_cons (pv 3) pa_nil))))
        (C8.pss_cut (ps_set (i := 8) scYard.nd rfl (.inr rfl) (pe_lc (own := [("_law_place", 10)]) (g := gName 10) (tt := tYes) (by rfl) scYard.nd (pi_range1 (by rfl) B.range (pa_cons (pv 3) pa_nil)) (blk (by decide +kernel)) (fun _ _ _ _ _ => pg_name (i := 10) scYard.nd rfl (.inl rfl)) (fun _ _ _ _ _ => pts_nil)
          (fun _ _ _ _ _ => pe_has O hr (by decide) (by rfl) (pa_cons (pv 0) (pa_cons pe_int pa_nil)))))
        (pss_one (ps_setLc (i := 5) (own := [("_law_pair", 9)]) (g := gName 9) (by rfl) scYard.nd rfl rfl (sw_true rfl rfl rfl (by decide +kernel)) (pi_list (pe_has PR hr (by decide) (by rfl) (pa_cons (pv 3) pa_nil))) (blk (by decide +kernel)) (fun _ _ _ _ _ => pg_name (i := 9) scYard.nd rfl (.inl rfl))
          (fun _ _ _ _ _ => pts_one (PW.pt (pw_or (pt_cmpR (r := rIn K false) op_in_seq (pv 7) (pv 9) (by with_unfolding_all rfl)) (pw_or1 (pt_cmpR op_eq (pe_ix (r := rIxL K) ix_list (pv 8) (pe_ix (r := rIxT K) ix_tup (pv 9) pe_int (fun _ _ => rfl)) (fun _ _ => rfl)) (pe_ix (r := rIxL K) ix_list (pv 8) (pe_ix (r := rIxT K) ix_tup (pv 9) pe_int (fun _ _ => rfl)) (fun _ _ => rfl)) (nomark _)))))) (fun _ _ _ _ _ => pv 9))))) pss_nil)
      (pss_one (ps_ret (pe_tup (pa_cons (pv 3) (pa_cons (pe_has M hr (by decide) (by rfl) (pa_cons (pv 0) (pa_cons (pv 5) pa_nil))) pa_nil)))))))))), ?_⟩
    obtain ⟨o0, ho0, do0⟩ := id hd
    -- many, way
    refine ⟨_, rfl, _, rfl, _, rfl, _, rfl, _, _, rfl, rfl, _, _, rfl, rfl, d, _, o0, rfl, ho0, do0, by omega, by omega, fun r o1 r0 r1 do1 => ?_⟩
    refine ⟨_, _, rfl, rfl, ?_⟩
    obtain ⟨n, hn⟩ : ∃ n : Nat, (lo : Int) + r = (n : Int) := ⟨lo + r.toNat, by omega⟩
    dsimp only
    rw [hn]
    have n1 : lo ≤ n := by omega
    have n2 : n ≤ hi := by omega
    refine ⟨_, rfl, d, _, o1, rfl, upd_same, do1, by decide, by decide, fun way o2 w0 w1 do2 => ?_⟩
    rw [upd_upd]
    have kp0 : Kp d H (upd H d o2) := Kp.put _ _ _
    have hd0 : DiceAt (upd H d o2) d := DiceAt.put do2
    -- the list of pairs, picked from
    refine ⟨WYard d H n (lo : Int) (hi : Int) way, ?_, ?_⟩
    · refine ⟨_, rfl, n, rfl, by omega, fun H1 l s1 nl ⟨as, el, ta⟩ => ?_⟩
      have hd1 : DiceAt H1 d := ⟨o2, s1 _ _ upd_same, do2⟩
      have kp1 : Kp d H H1 := kp0.trans (Same.kp s1 d)
      have la := ta.length
      refine ⟨l, rfl, ⟨_, SqL.of el⟩, fun D nD => lc_pick el ta hd1 nD (by have := (Ties.all n).len900 (by omega); omega) (by show 9 < 11; decide) (fun a p H2 R hp ea k2 hd2 fin => ?_) (fun H2 bs qs k2 hd2 eD tb sb => ?_)⟩
      · obtain ⟨o, ho, doo⟩ := id hd2
        refine ⟨_, rfl, d, 8, o, rfl, ho, doo, by decide, by decide, fun r o' _ _ do' => ?_⟩
        refine ⟨by show 7 ≤ sizeLine; decide, fun z nz => ?_⟩
        obtain ⟨c, _, hc⟩ := atI_int (xs := [.int 2, .int 4, .int 6, .int 7, .int 8, .int 4, .int 4]) [2, 4, 6, 7, 8, 4, 4] rfl w0 w1
        refine ⟨_, rfl, z, _, way, _, rfl, rfl, SqL.of upd_same, hc, _, _, rfl, rfl, _, rfl, fin _ _ ((Kp.put d H2 o').new nz) ((DiceAt.put do').new nz)⟩
      · exact ⟨D, qs, none, none, none, none, none, rfl, kp1.trans k2, hd2, kp1.free hd1 nD, ⟨bs, eD, tb⟩, (Ties.all n).sub sb⟩
    · rintro σ H1 ⟨tl, ps, x6, x7, x8, x9, x10, rfl, k1, hd1, ntl, pa, ti⟩
      -- if way == 4
      refine ⟨WYard d H n (lo : Int) (hi : Int) way, ⟨_, rfl, rfl, _, rfl, ite2 (fun _ => ?_) (fun _ => ⟨tl, ps, x6, x7, x8, x9, x10, rfl, k1, hd1, ntl, pa, ti⟩)⟩, ?_⟩
      · obtain ⟨as, el, ta⟩ := pa
        refine ⟨_, rfl, _, rfl, d, tl, _, rfl, hd1, SqL.of el, ?_, fun H2 p ys pm k2 hd2 np ep => ?_⟩
        · rw [List.length_map, ta.length]
          have := ti.len900 (by omega)
          omega
        obtain ⟨o, ho, doo⟩ := id hd2
        refine ⟨_, rfl, d, 4, o, rfl, ho, doo, by decide, by decide, fun r o' r0 r1 do' => ?_⟩
        have pd : p ≠ d := fun z => hd1.some (z ▸ np)
        refine ⟨_, rfl, p, ys, rfl, SqL.of ((upd_ne pd).trans ep), fun q nq => ?_⟩
        have ta2 : TupsAt H2 as ps := ta.keep fun b xs e => k2 b _ (fun z => by
          obtain ⟨o, h1, xs, rfl, h2⟩ := hd1
          rw [z, h1] at e
          injection e with e
          cases e) e
        obtain ⟨bs, qs, rfl, tb, pq⟩ := ta2.perm pm
        obtain ⟨rk, rfl⟩ : ∃ k : Nat, r = (k : Int) := ⟨r.toNat, by omega⟩
        have kq : Kp d H (upd H2 d o') := (k1.trans k2).trans (Kp.put _ _ _)
        refine ⟨q, qs.drop rk, x6, x7, x8, x9, x10, rfl, kq.new nq, (DiceAt.put do').new nq, kq.free (DiceAt.put do') nq, ⟨bs.drop rk, ?_, ?_⟩, (ti.perm pq).sub (List.drop_sublist _ _)⟩
        · rw [upd_same, cut_from, List.map_drop]
        · refine TupsAt.new (TupsAt.keep (tb.drop rk) fun b xs e => ?_) nq
          rw [upd_ne (fun z => by
            rw [z, ho] at e
            obtain ⟨xs, rfl, _⟩ := doo
            injection e with e
            cases e)]
          exact e
      · rintro σ H1 ⟨tl, ps, x6, x7, x8, x9, x10, rfl, k1, hd1, ntl, pa, ti⟩
        -- if way == 5
        refine ⟨WYard d H n (lo : Int) (hi : Int) way, ⟨_, rfl, rfl, _, rfl, ite2 (fun _ => ?_) (fun _ => ⟨tl, ps, x6, x7, x8, x9, x10, rfl, k1, hd1, ntl, pa, ti⟩)⟩, ?_⟩
        · refine ⟨_, rfl, _, _, rfl, rfl, ⟨by decide, by decide⟩, ?_⟩
          refine ⟨_, rfl, n, rfl, by omega, fun H2 l s1 nl ⟨as, el, ta⟩ => ?_⟩
          obtain ⟨o, ho, doo⟩ := id hd1
          have hd2 : DiceAt H2 d := ⟨o, s1 _ _ ho, doo⟩
          have kp2 : Kp d H H2 := k1.trans (Same.kp s1 d)
          have la := ta.length
          refine ⟨l, rfl, ⟨_, SqL.of el⟩, fun D nD => lc_pick el ta hd2 nD (by have := (Ties.all n).len900 (by omega); omega) (by show 9 < 11; decide) (fun a p H3 R hp ea k3 hd3 fin => ?_) (fun H3 bs qs k3 hd3 eD tb sb => ?_)⟩
          · refine ⟨_, rfl, a, _, _, _, rfl, rfl, SqT.of ea, atI_nat (j := 0) rfl, _, rfl, _, _, rfl, rfl, _, rfl, ite2 (fun _ => ?_) (fun _ => fin _ _ (Kp.refl _ _) hd3)⟩
            refine ⟨_, rfl, a, _, _, _, rfl, rfl, SqT.of ea, atI_nat (j := 1) rfl, _, rfl, _, rfl, ?_⟩
            obtain ⟨o3, ho3, do3⟩ := id hd3
            refine ⟨d, 2, o3, rfl, ho3, do3, by decide, by decide, fun r o' _ _ do' => ?_⟩
            exact ⟨_, _, rfl, rfl, _, _, rfl, rfl, _, rfl, fin _ _ (Kp.put _ _ _) (DiceAt.put do')⟩
          · exact ⟨D, qs, _, _, _, _, _, rfl, kp2.trans k3, hd3, kp2.free hd2 nD, ⟨bs, eD, tb⟩, (Ties.all n).sub sb⟩
        · rintro σ H1 ⟨tl, ps, x6, x7, x8, x9, x10, rfl, k1, hd1, ntl, pa, ti⟩
          -- if way == 6
          refine ⟨WYard d H n (lo : Int) (hi : Int) way, ⟨_, rfl, rfl, _, rfl, ite2 (fun _ => ?_) (fun _ => ⟨tl, ps, x6, x7, x8, x9, x10, rfl, k1, hd1, ntl, pa, ti⟩)⟩, ?_⟩
          · obtain ⟨o, ho, doo⟩ := id hd1
            refine ⟨_, rfl, _, rfl, d, (n : Int), o, rfl, ho, doo, by omega, by omega, fun mid o' m0 m1 do' => ?_⟩
            have hd1' : DiceAt (upd H1 d o') d := DiceAt.put do'
            have k1' : Kp d H (upd H1 d o') := k1.trans (Kp.put _ _ _)
            refine ⟨fun σ H2 => ∃ (S : Addr) (ns : List Int) (y9 y10 : Option V), σ = [some (.ref d), some (.int (lo : Int)), some (.int (hi : Int)), some (.int (n : Int)), some (.int way), some (.ref tl), x6, some (.int mid), some (.ref S), y9, y10] ∧
              Kp d H H2 ∧ DiceAt H2 d ∧ H2 S = some (.lst (ns.map V.int)) ∧ ns.length = n ∧ S ≠ d, ?_, ?_⟩
            · refine ⟨_, rfl, (n : Int), rfl, by omega, by omega, fun D nD => ?_⟩
              have dD : D ≠ d := fun z => hd1'.some (z ▸ nD)
              rw [Int.toNat_natCast]
              refine lc_range (lo := 0) (n := n) (fun j H2 => ∃ ns : List Int, ns.length = j ∧ Kp d (upd H1 d o') H2 ∧ DiceAt H2 d ∧ H2 D = some (.lst (ns.map V.int))) ⟨[], rfl, (Kp.refl _ _).new nD, hd1'.new nD, upd_same⟩ ?_ ?_
              · rintro j H2 hj ⟨ns, hl, k2, hd2, eD⟩
                obtain ⟨o2, ho2, do2⟩ := id hd2
                refine ⟨rfl, _, rfl, d, 2, o2, rfl, ho2, do2, by decide, by decide, fun r o3 _ _ do3 => ?_⟩
                refine ⟨ns.map V.int, (upd_ne dD).trans eD, ?_, ns ++ [r], by simp [hl], (k2.trans (Kp.put _ _ _)).wr nD, (DiceAt.put do3).lst dD, ?_⟩
                · rw [List.length_map]
                  exact small1000 (by omega)
                · rw [upd_same]
                  simp
              · rintro H2 ⟨ns, hl, k2, hd2, eD⟩
                exact ⟨D, ns, _, _, rfl, k1'.trans k2, hd2, eD, hl, dD⟩
            · rintro σ H2 ⟨S, ns, y9, y10, rfl, kp2, hd2, eS, hl, dS⟩
              refine ⟨_, rfl, n, rfl, by omega, fun H3 l s1 nl ⟨as, el, ta⟩ => ?_⟩
              obtain ⟨o3, ho3, do3⟩ := id hd2
              have hd3 : DiceAt H3 d := ⟨o3, s1 _ _ ho3, do3⟩
              have kp3 : Kp d H H3 := kp2.trans (Same.kp s1 d)
              have la := ta.length
              refine ⟨l, rfl, ⟨_, SqL.of el⟩, fun D nD => lc_pick el ta hd3 nD (by have := (Ties.all n).len900 (by omega); omega) (by show 9 < 11; decide) (fun a p H4 R hp ea k4 hd4 fin => ?_) (fun H4 bs qs k4 hd4 eD tb sb => ?_)⟩
              · have b := (Ties.all n).bound hp
                have eS4 : H4 S = some (.lst (ns.map V.int)) := k4 _ _ dS (s1 _ _ eS)
                obtain ⟨c1, _, hc1⟩ := atI_int (xs := ns.map V.int) ns rfl b.1 (by omega)
                obtain ⟨c2, _, hc2⟩ := atI_int (xs := ns.map V.int) ns rfl b.2.2.1 (by omega)
                refine ⟨_, rfl, _, rfl, a, _, rfl, .inr (SqT.of ea), rfl, rfl, _, rfl, ite2 (fun _ => fin _ _ (Kp.refl _ _) hd4) (fun _ => ?_)⟩
                exact ⟨_, rfl, _, rfl, a, _, _, _, rfl, rfl, SqT.of ea, atI_nat (j := 0) rfl, S, _, _, _, rfl, rfl, SqL.of eS4, hc1, _, rfl, _, rfl, a, _, _, _, rfl, rfl, SqT.of ea, atI_nat (j := 1) rfl, S, _, _, _, rfl, rfl, SqL.of eS4, hc2, rfl, _, rfl, fin _ _ (Kp.refl _ _) hd4⟩
              · exact ⟨D, qs, _, _, _, _, _, rfl, kp3.trans k4, hd4, kp3.free hd3 nD, ⟨bs, eD, tb⟩, (Ties.all n).sub sb⟩
          · rintro σ H1 ⟨tl, ps, x6, x7, x8, x9, x10, rfl, k1, hd1, ntl, ⟨as, el, ta⟩, ti⟩
            refine ⟨_, rfl, _, rfl, _, rfl, d, tl, _, rfl, hd1, SqL.of el, ?_, fun H2 p ys pm k2 hd2 np ep => ?_⟩
            · rw [List.length_map, ta.length]
              have := ti.len900 (by omega)
              omega
            refine ⟨by show 2 ≤ sizeLine; decide, fun t nt => ?_⟩
            have ta2 : TupsAt H2 as ps := ta.keep fun b xs e => k2 b _ (fun z => by
              obtain ⟨o, h1, xs, rfl, h2⟩ := hd1
              rw [z, h1] at e
              injection e with e
              cases e) e
            obtain ⟨bs, qs, rfl, tb, pq⟩ := ta2.perm pm
            have k3 := k1.trans k2
            have pt : p ≠ t := ne_of_none ep nt
            exact q _ t p n qs (k3.new nt) (hd2.new nt) (k3.free hd2 nt) (k1.free hd1 np) upd_same ⟨bs, (upd_ne pt).trans ep, tb.new nt⟩ (ti.perm pq) n1 n2
end
end DR

set_option Elab.async false
set_option linter.all false
set_option maxRecDepth 100000
set_option maxHeartbeats 4000000
namespace DR
open PySem PySem.Spec PyProof.Rows L2 TL
open GxR (TabB TabG Tabbed)
/-- H' stands where H stood, but for the dice and the two tables -/
structure Gd (d T1 T2 : Addr) (H H' : Hp) : Prop where
  keep : ∀ b o, b ≠ d → H b = some o → (∀ ps, o ≠ .tbl ps) → H' b = some o
  old : DiceAt H d
  dice : DiceAt H' d
  t1 : TabG H' T1
  t2 : TabG H' T2
theorem tab_dice {H : Hp} {d t : Addr} (hd : DiceAt H d) (t1 : TabG H t) : t ≠ d := fun e => by
  obtain ⟨ps, et, _⟩ := t1
  obtain ⟨o, h1, h2⟩ := hd
  rw [e, h1] at et
  cases et
  rcases h2 with ⟨xs, z, _⟩ <;> cases z
theorem Gd.same {d T1 T2 : Addr} {H H' : Hp} (hd : DiceAt H d) (t1 : TabG H T1) (t2 : TabG H T2) (s : Same H H') : Gd d T1 T2 H H' := by
  obtain ⟨o, h1, h2⟩ := id hd
  exact ⟨fun b o _ e _ => s b o e, hd, ⟨o, s _ _ h1, h2⟩, tabG_same t1 s, tabG_same t2 s⟩
theorem Gd.gw {d T1 T2 : Addr} {H H' : Hp} (hd : DiceAt H d) (g : Gw T1 T2 H H') : Gd d T1 T2 H H' := by
  obtain ⟨o, h1, h2⟩ := id hd
  refine ⟨fun b o _ e n => g.same b o e n, hd, ⟨o, ?_, h2⟩, g.t1, g.t2⟩
  obtain ⟨xs, rfl, _⟩ := h2
  exact g.lst h1
theorem Gd.off {d T1 T2 : Addr} {H : Hp} {o' : HO} (hd : DiceAt H d) (t1 : TabG H T1) (t2 : TabG H T2) (h : Dice o') : Gd d T1 T2 H (upd H d o') := by
  refine ⟨fun b o n e _ => (upd_ne n).trans e, hd, DiceAt.put h, ?_, ?_⟩
  · have := tab_dice hd t1
    obtain ⟨ps, e, x⟩ := t1
    exact ⟨ps, (upd_ne this).trans e, x⟩
  · have := tab_dice hd t2
    obtain ⟨ps, e, x⟩ := t2
    exact ⟨ps, (upd_ne this).trans e, x⟩
theorem Gd.lst {d T1 T2 : Addr} {H H' : Hp} (g : Gd d T1 T2 H H') {b : Addr} {xs : List V} (n : b ≠ d) (e : H b = some (.lst xs)) : H' b = some (.lst xs) := g.keep b _ n e (by intro ps z; cases z)
theorem Gd.tup {d T1 T2 : Addr} {H H' : Hp} (g : Gd d T1 T2 H H') {b : Addr} {xs : List V} (e : H b = some (.tup xs)) : H' b = some (.tup xs) := g.keep b _ (dice_tup g.old e) e (by intro ps z; cases z)
theorem Gd.new {d T1 T2 : Addr} {H : Hp} {p : Addr} {o : HO} (hd : DiceAt H d) (t1 : TabG H T1) (t2 : TabG H T2) (n : H p = none) : Gd d T1 T2 H (upd H p o) := .same hd t1 t2 (same_new n)
/-- a new object is not the dice -/
theorem Gd.ne {d : Addr} {H : Hp} {p : Addr} (hd : DiceAt H d) (n : H p = none) : p ≠ d := fun e => hd.some (e ▸ n)
theorem LawT.gd {d T1 T2 t : Addr} {H H' : Hp} {n : Nat} {ps : List (Int × Int)} (h : LawT H t n ps) (g : Gd d T1 T2 H H') : LawT H' t n ps := by
  obtain ⟨tl, e, as, e2, ta⟩ := h
  exact ⟨tl, g.tup e, as, g.lst (g.old.ne e2) e2, ta.keep fun b xs e => g.tup e⟩
def odds : List Str := ["", " ", "tie", "tie 0", "tie 0 1 2", "tie 00 1", "tie 0 01", "tie 0 x", "tie 0 -1", "tie  0 1", "tie 0 1 ", " tie 0 1", "Tie 0 1", "ties 0 1", "tie 0 100", "tie 0,1", "yard 3", "tie 0 1_0", "0 1", "tie 0 +1"]
def heads : List Str := ["", "yard", "yard 03", "yard 3 3", "yard x", "yard -1", "yard 100", "Yard 3", "yard 3 ", " yard 3", "tie 0 1"]
theorem Gd.trans {d T1 T2 : Addr} {H H1 H2 : Hp} (a : Gd d T1 T2 H H1) (b : Gd d T1 T2 H1 H2) : Gd d T1 T2 H H2 := ⟨fun c o n e t => b.keep c o n (a.keep c o n e t) t, a.old, b.dice, b.t1, b.t2⟩
theorem odds_ok : ∀ z ∈ odds, 10 ∉ z.cps.toList ∧ z.length ≤ 50 ∧ rowNums "tie" 2 z = none := by decide +kernel
theorem heads_ok : ∀ z ∈ heads, 10 ∉ z.cps.toList ∧ z.length ≤ 50 ∧ rowNums "yard" 1 z = none := by decide +kernel
theorem later_ok : ∀ z ∈ ([("" : Str), "x"] : List Str), 10 ∉ z.cps.toList ∧ z.length ≤ 50 := by decide +kernel
theorem x_ok : rowNums "tie" 2 "x" = none := by decide +kernel
theorem numOf_ok {i : Int} (h : Num30 i) : numOf (numS i) = i := by
  unfold numOf
  rw [int_ok h]
  rfl
theorem yard_nums {n : Nat} (h : n ≤ 30) : rowNums "yard" 1 (rowYard n) = some [(n : Int)] := by
  have h2 : Num30 (n : Int) := ⟨by omega, by omega⟩
  unfold rowNums
  rw [split_yard_ok h]
  show (if ("yard" : Str) = "yard" ∧ [numS (n : Int)].length = 1 ∧ [numS (n : Int)].all isNum = true then some ([numS (n : Int)].map numOf) else none) = _
  rw [if_pos ⟨rfl, rfl, by rw [List.all_cons, isNum_ok h2]; rfl⟩, List.map_cons, numOf_ok h2]
  rfl
theorem tie_nums {p : Int × Int} (h : Num30 p.1 ∧ Num30 p.2) : rowNums "tie" 2 (rowTie p) = some [p.1, p.2] := by
  obtain ⟨h1, h2⟩ := h
  have e := split_tie_ok h1 h2
  unfold rowNums
  rw [show rowTie p = rowTie (p.1, p.2) from rfl, e]
  show (if ("tie" : Str) = "tie" ∧ [numS p.1, numS p.2].length = 2 ∧ [numS p.1, numS p.2].all isNum = true then some ([numS p.1, numS p.2].map numOf) else none) = _
  rw [if_pos ⟨rfl, rfl, by rw [List.all_cons, List.all_cons, isNum_ok h1, isNum_ok h2]; rfl⟩, List.map_cons, List.map_cons, numOf_ok h1, numOf_ok h2]
  rfl
theorem yard_ok {n : Nat} (h : n ≤ 30) : 10 ∉ tl (rowYard n) ∧ (rowYard n).length ≤ 50 := by
  refine ⟨?_, by have := rowYard_len h; omega⟩
  rw [tl_yard]
  have := no_line (i := (n : Int)) ⟨by omega, by omega⟩
  simp [this]
theorem tie_ok {n : Nat} {ps : List (Int × Int)} (n30 : n ≤ 30) (ti : Ties n ps) {p : Int × Int} (hp : p ∈ ps) : 10 ∉ tl (rowTie p) ∧ (rowTie p).length ≤ 50 := by
  obtain ⟨h1, h2⟩ := ti.num30 n30 p hp
  refine ⟨?_, by have := rowTie_len n30 ti hp; omega⟩
  have a := no_line h1
  have b := no_line h2
  rw [tl_tie]
  simp [a, b]
/-- the good rows' pairs -/
theorem par_ok {n : Nat} {ps : List (Int × Int)} (n30 : n ≤ 30) (ti : Ties n ps) (k : Nat) (rest : List Str) : ∀ (j : Nat) (r : Str) (p : Int × Int), ((ps.map rowTie).take k ++ rest)[j]? = some r → (ps.take k)[j]? = some p → rowNums "tie" 2 r = some [p.1, p.2] := fun j r p hr hp => by
  have hj := (List.getElem?_eq_some_iff.mp hp).1
  rw [List.getElem?_append_left (by rw [List.length_take, List.length_map, ← List.length_take]; exact hj), ← List.map_take, List.getElem?_map, hp] at hr
  obtain rfl : rowTie p = r := Option.some.inj hr
  exact tie_nums (ti.num30 n30 p (List.mem_of_mem_take (List.mem_of_getElem? hp)))
theorem ref_odd {n : Nat} {ps : List (Int × Int)} (n30 : n ≤ 30) (ti : Ties n ps) (k : Nat) (hk : k ≤ ps.length) (l9 : ps.length ≤ 900) (odd : Str) (w : rowNums "tie" 2 odd = none) (rest : List Str) : RefT (rowYard n) ((ps.map rowTie).take k ++ odd :: rest) (k + 1) := by
  have lk : (ps.take k).length = k := by rw [List.length_take]; omega
  refine .inr ⟨(n : Int), ps.take k, yard_nums n30, by omega, par_ok n30 ti k _, odd, ?_, w, by omega⟩
  rw [lk, List.getElem?_append_right (by rw [List.length_take, List.length_map]; omega), List.length_take, List.length_map]
  have e : k - min k ps.length = 0 := by omega
  rw [e]
  rfl
theorem rest_ok {n : Nat} {ps : List (Int × Int)} (n30 : n ≤ 30) (ti : Ties n ps) : ∀ r ∈ ps.map rowTie, 10 ∉ TL.tl r ∧ r.length ≤ 50 := fun r hr => by
  obtain ⟨p, hp, rfl⟩ := List.mem_map.mp hr
  exact tie_ok n30 ti hp
theorem next_go {D : Ends} {σ : L2.St} {H : Hp} (h : D.nx σ H) : tNext D σ H := h
theorem seq_go {s1 s2 : TS} {D : Ends} {σ : L2.St} {H : Hp} (h : s1 { D with nx := s2 D } σ H) : tSeq s1 s2 D σ H := h
theorem asg_go {te : TE} {g : TG} {D : Ends} {σ : L2.St} {H : Hp} (h : te σ H fun x H1 => g x σ H1 D.nx) : tAsg te g D σ H := h
theorem lst2 {ta tb : TE} {σ : L2.St} {H : Hp} {Q : VK} (h : ta σ H fun x H1 => tb σ H1 fun y H2 => 2 ≤ sizeLine ∧ ∀ p, H2 p = none → Q (.ref p) (upd H2 p (.lst [x, y]))) : tLst (tCons ta (tCons tb tNil)) σ H Q := h
/-- one of the texts that no yard has -/
def BadAt (d : Addr) (H : Hp) (B : Addr) : Prop := ∃ (l w : Addr) (r0 : Str) (rs : List Str) (i : Nat) (y : Str), l ≠ d ∧ H B = some (.tup [.ref l, .ref w]) ∧ H l = some (.lst ((r0 :: rs).map V.str)) ∧ H w = some (.tup [.int (i : Int), .str y]) ∧ RefW r0 rs i y ∧ (∀ r ∈ r0 :: rs, 10 ∉ TL.tl r ∧ r.length ≤ 50) ∧ rs.length ≤ 940
theorem BadAt.gd {d T1 T2 : Addr} {H H' : Hp} {B : Addr} (b : BadAt d H B) (g : Gd d T1 T2 H H') : BadAt d H' B := by
  obtain ⟨l, w, r0, rs, i, y, h1, h2, h3, h4, h5⟩ := b
  exact ⟨l, w, r0, rs, i, y, h1, g.tup h2, g.lst h1 h3, g.tup h4, h5⟩
section
variable {K : PySem.W.Frag} {d T1 T2 R : Addr} {H : Hp} {σ : L2.St} {Q : VK} {n : Nat} {ps : List (Int × Int)}
/-- ([head] + rows[1:], (0, 'many')) -/
theorem item_head {hd : Str} {m : Int} (g0 : DiceAt H d) (u1 : TabG H T1) (u2 : TabG H T2) (hs : σ[3]? = some (some (.ref R))) (Rd : R ≠ d) (eR : H R = some (.lst ((rowYard n :: ps.map rowTie).map V.str))) (n30 : n ≤ 30) (ti : Ties n ps) (l9 : ps.length ≤ 900)
    (hh : rowNums "yard" 1 hd = some [m]) (hm : ¬ (1 ≤ m ∧ m ≤ 30)) (ok : 10 ∉ TL.tl hd ∧ hd.length ≤ 50) (h : ∀ B H', Gd d T1 T2 H H' → BadAt d H' B → Q (.ref B) H') :
    tTup (tCons (tOp rCat (tLst (tCons (tC (.str hd)) tNil)) (tSl (rSlL K) (tVar 3) (tPart (tC (.int 1))) tNoPart)) (tCons (tTup (tCons (tC (.int 0)) (tCons (tC (.str "many")) tNil))) tNil)) σ H Q := by
  refine ⟨by show 1 ≤ sizeLine; decide, fun a na => ?_⟩
  have ad := Gd.ne g0 na
  generalize hx : upd H a _ = Z1
  have s1 : Gd d T1 T2 H Z1 := by rw [← hx]; exact Gd.new g0 u1 u2 na
  have ea : Z1 a = some (.lst [V.str hd]) := by rw [← hx]; exact upd_same
  clear hx na
  refine ⟨_, hs, 1, rfl, R, _, rfl, SqL.of (s1.lst Rd eR), fun b nb => ?_⟩
  generalize hx : upd Z1 b _ = Z2
  have s2 : Gd d T1 T2 Z1 Z2 := by rw [← hx]; exact Gd.new s1.dice s1.t1 s1.t2 nb
  have eb : Z2 b = some (.lst ((ps.map rowTie).map V.str)) := by
    have e : cutV ((rowYard n :: ps.map rowTie).map V.str) (some 1) none = (ps.map rowTie).map V.str := cut_from _ 1
    rw [← hx, upd_same, e]
  clear hx nb
  refine ⟨a, b, _, _, rfl, rfl, s2.lst ad ea, eb, ?_, fun c nc => ?_⟩
  · simp only [List.length_map, List.length_cons, List.length_nil]
    have ss : 100002 ≤ sizeLine := by decide
    omega
  have cd := Gd.ne s2.dice nc
  generalize hx : upd Z2 c _ = Z3
  have s3 : Gd d T1 T2 Z2 Z3 := by rw [← hx]; exact Gd.new s2.dice s2.t1 s2.t2 nc
  have ec : Z3 c = some (.lst ((hd :: ps.map rowTie).map V.str)) := by rw [← hx, upd_same]; rfl
  clear hx nc
  refine ⟨by show 2 ≤ sizeLine; decide, fun w nw => ?_⟩
  generalize hx : upd Z3 w _ = Z4
  have s4 : Gd d T1 T2 Z3 Z4 := by rw [← hx]; exact Gd.new s3.dice s3.t1 s3.t2 nw
  have ew : Z4 w = some (.tup [.int 0, .str "many"]) := by rw [← hx]; exact upd_same
  clear hx nw
  refine ⟨by show 2 ≤ sizeLine; decide, fun B nB => ?_⟩
  have s5 : Gd d T1 T2 Z4 (upd Z4 B (.tup [.ref c, .ref w])) := Gd.new s4.dice s4.t1 s4.t2 nB
  refine h B _ (s1.trans (s2.trans (s3.trans (s4.trans s5)))) ⟨c, w, hd, ps.map rowTie, 0, "many", cd, upd_same, (s4.trans s5).lst cd ec, s5.tup ew, ⟨m, ps, hh, l9, fun j r p hr hp => ?_, List.length_map .., .inl ⟨hm, rfl, rfl⟩⟩, fun r hr => ?_, by rw [List.length_map]; omega⟩
  · rw [List.getElem?_map, hp] at hr
    obtain rfl : rowTie p = r := Option.some.inj hr
    exact tie_nums (ti.num30 n30 p (List.mem_of_getElem? hp))
  · rcases List.mem_cons.mp hr with z | z
    · rw [z]
      exact ok
    · exact rest_ok n30 ti r z
/-- (rows + [..], (len(ties), 'place')) -/
theorem item_tail {t : Addr} {ta : TA} {xs : List Str} {p0 : Int × Int} {rest : List (Int × Int)} (ht : ∀ σ H (Q : List V → Hp → Prop), Q (xs.map V.str) H → ta σ H Q) (g0 : DiceAt H d) (u1 : TabG H T1) (u2 : TabG H T2) (hs : σ[3]? = some (some (.ref R))) (hs2 : σ[2]? = some (some (.ref t))) (Rd : R ≠ d)
    (eR : H R = some (.lst ((rowYard n :: ps.map rowTie).map V.str))) (lt : LawT H t n ps) (n1 : 1 ≤ n) (n30 : n ≤ 30) (ti : Ties n ps) (l9 : ps.length ≤ 850) (xl : xs.length = (p0 :: rest).length) (rl : rest.length ≤ 5)
    (par : ∀ (j : Nat) (r : Str) (p : Int × Int), xs[j]? = some r → (p0 :: rest)[j]? = some p → rowNums "tie" 2 r = some [p.1, p.2]) (bad : ¬ (0 ≤ p0.1 ∧ p0.1 < p0.2 ∧ p0.2 < (n : Int))) (ok : ∀ r ∈ xs, 10 ∉ TL.tl r ∧ r.length ≤ 50)
    (h : ∀ B H', Gd d T1 T2 H H' → BadAt d H' B → Q (.ref B) H') :
    tTup (tCons (tOp rCat (tVar 3) (tLst ta)) (tCons (tTup (tCons (tCB (fun xs H Q => ∃ p ys, xs = [.ref p] ∧ (SqL K H p ys ∨ SqT K H p ys) ∧ Q (.int ys.length) H) (tCons (tOp (rIxT K) (tVar 2) (tC (.int 1))) tNil)) (tCons (tC (.str "place")) tNil))) tNil)) σ H Q := by
  have ss : 100002 ≤ sizeLine := by decide
  have xlen : xs.length ≤ 6 := by rw [xl, List.length_cons]; omega
  refine ⟨_, hs, ht _ _ _ ⟨by rw [List.length_map]; omega, fun a na => ?_⟩⟩
  have ad := Gd.ne g0 na
  have s1 : Gd d T1 T2 H (upd H a (.lst (xs.map V.str))) := Gd.new g0 u1 u2 na
  have ea : upd H a (.lst (xs.map V.str)) a = some (.lst (xs.map V.str)) := upd_same
  generalize upd H a (.lst (xs.map V.str)) = Z1 at s1 ea
  refine ⟨R, a, _, _, rfl, rfl, s1.lst Rd eR, ea, ?_, fun c nc => ?_⟩
  · simp only [List.length_map, List.length_cons]
    omega
  have cd := Gd.ne s1.dice nc
  generalize hx : upd Z1 c _ = Z3
  have s3 : Gd d T1 T2 Z1 Z3 := by rw [← hx]; exact Gd.new s1.dice s1.t1 s1.t2 nc
  have ec : Z3 c = some (.lst ((rowYard n :: (ps.map rowTie ++ xs)).map V.str)) := by rw [← hx, upd_same]; simp
  clear hx nc
  obtain ⟨tl, et, as, el, tas⟩ := (lt.gd s1).gd s3
  have la := tas.length
  refine ⟨_, hs2, t, _, _, _, rfl, rfl, SqT.of et, atI_nat (j := 1) rfl, tl, _, rfl, .inl (SqL.of el), by show 2 ≤ sizeLine; decide, fun w nw => ?_⟩
  generalize hx : upd Z3 w _ = Z4
  have s4 : Gd d T1 T2 Z3 Z4 := by rw [← hx]; exact Gd.new s3.dice s3.t1 s3.t2 nw
  have ew : Z4 w = some (.tup [.int (ps.length : Nat), .str "place"]) := by
    rw [← hx, upd_same, List.length_map, la]
  clear hx nw
  refine ⟨by show 2 ≤ sizeLine; decide, fun B nB => ?_⟩
  have s5 : Gd d T1 T2 Z4 (upd Z4 B (.tup [.ref c, .ref w])) := Gd.new s4.dice s4.t1 s4.t2 nB
  refine h B _ (s1.trans (s3.trans (s4.trans s5))) ⟨c, w, rowYard n, ps.map rowTie ++ xs, ps.length, "place", cd, upd_same, (s4.trans s5).lst cd ec, s5.tup ew, ⟨(n : Int), ps ++ p0 :: rest, yard_nums n30, ?_, fun j r p hr hp => ?_, ?_, .inr ⟨n, ps, rest, p0, rfl, n1, n30, rfl, rfl, ti, .inl ⟨bad, rfl⟩⟩⟩, fun r hr => ?_, ?_⟩
  · rw [List.length_append, List.length_cons]
    omega
  · rcases Nat.lt_or_ge j ps.length with z | z
    · rw [List.getElem?_append_left z] at hp
      rw [List.getElem?_append_left (by rw [List.length_map]; exact z), List.getElem?_map, hp] at hr
      obtain rfl : rowTie p = r := Option.some.inj hr
      exact tie_nums (ti.num30 n30 p (List.mem_of_getElem? hp))
    · rw [List.getElem?_append_right z] at hp
      rw [List.getElem?_append_right (by rw [List.length_map]; exact z), List.length_map] at hr
      exact par _ r p hr hp
  · rw [List.length_append, List.length_append, List.length_map, xl]
  · rcases List.mem_cons.mp hr with z | z
    · rw [z]
      exact yard_ok n30
    · rcases List.mem_append.mp z with z | z
      · exact rest_ok n30 ti r z
      · exact ok r z
  · rw [List.length_append, List.length_map]
    omega
end
theorem pairs9 {n : Nat} (n9 : n ≤ 9) {ps : List (Int × Int)} (ti : Ties n ps) : ps.length ≤ 100 := by
  have h : ps.length ≤ (pairsOf n).length := nodup_le _ _ ti.nd fun ⟨a, b⟩ h => by
    have := ti.rng _ h
    exact mem_pairsOf.mpr this
  have h2 := pairsOf_len n
  have h3 : n * n ≤ 9 * 9 := Nat.mul_le_mul n9 n9
  omega
theorem tail1 : ∀ (j : Nat) (r : Str) (p : Int × Int), ([("tie 1 0" : Str)] : List Str)[j]? = some r → ([(1, 0)] : List (Int × Int))[j]? = some p → rowNums "tie" 2 r = some [p.1, p.2] := fun j r p hr hp => by
  match j with
  | 0 =>
    cases hr
    cases hp
    decide +kernel
  | j + 1 => cases hr
theorem tail2 : ∀ (j : Nat) (r : Str) (p : Int × Int), ([("tie 0 99" : Str), "tie 0 0"] : List Str)[j]? = some r → ([(0, 99), (0, 0)] : List (Int × Int))[j]? = some p → rowNums "tie" 2 r = some [p.1, p.2] := fun j r p hr hp => by
  match j with
  | 0 =>
    cases hr
    cases hp
    decide +kernel
  | 1 =>
    cases hr
    cases hp
    decide +kernel
  | j + 2 => cases hr
theorem refT_of {r0 : Str} {rs : List Str} {i : Nat} {y : Str} (h : RefW r0 rs i y) : RefT r0 (rs ++ [("x" : Str)]) (rs.length + 1) := by
  obtain ⟨m, ps, h0, pl, par, hl, _⟩ := h
  refine .inr ⟨m, ps, h0, pl, fun j r p hr hp => ?_, ("x" : Str), ?_, x_ok, by omega⟩
  · have hj := (List.getElem?_eq_some_iff.mp hp).1
    rw [List.getElem?_append_left (by omega)] at hr
    exact par j r p hr hp
  · rw [List.getElem?_append_right (by omega), hl, Nat.sub_self]
    rfl
theorem twice_ok : RefW "yard 3" ["tie 0 1", "tie 1 2", "tie 0 1"] 2 "twice" := by
  refine ⟨3, [(0, 1), (1, 2), (0, 1)], by decide +kernel, by decide, fun j r p hr hp => ?_, rfl, .inr ⟨3, [(0, 1), (1, 2)], [], (0, 1), rfl, by decide, by decide, rfl, rfl, ⟨by decide, by decide⟩, .inr ⟨by decide, by decide, rfl⟩⟩⟩
  match j with
  | 0 =>
    cases hr
    cases hp
    decide +kernel
  | 1 =>
    cases hr
    cases hp
    decide +kernel
  | 2 =>
    cases hr
    cases hp
    decide +kernel
  | j + 3 => cases hr
/-- such a text, whose list is not M -/
def BadM (d M : Addr) (H : Hp) (B : Addr) : Prop := ∃ (l w : Addr) (r0 : Str) (rs : List Str) (i : Nat) (y : Str), l ≠ M ∧ l ≠ d ∧ H B = some (.tup [.ref l, .ref w]) ∧ H l = some (.lst ((r0 :: rs).map V.str)) ∧ H w = some (.tup [.int (i : Int), .str y]) ∧ RefW r0 rs i y ∧ (∀ r ∈ r0 :: rs, 10 ∉ TL.tl r ∧ r.length ≤ 50) ∧ rs.length ≤ 940
theorem BadAt.m {d M : Addr} {H : Hp} {B : Addr} (b : BadAt d H B) (n : H M = none) : BadM d M H B := by
  obtain ⟨l, w, r0, rs, i, y, h1, h2, h3, h4, h5⟩ := b
  exact ⟨l, w, r0, rs, i, y, ne_of_none h3 n, h1, h2, h3, h4, h5⟩
theorem BadM.gd {d T1 T2 M : Addr} {H H' : Hp} {B : Addr} (b : BadM d M H B) (g : Gd d T1 T2 H H') : BadM d M H' B := by
  obtain ⟨l, w, r0, rs, i, y, h0, h1, h2, h3, h4, h5⟩ := b
  exact ⟨l, w, r0, rs, i, y, h0, h1, g.tup h2, g.lst h1 h3, g.tup h4, h5⟩
theorem BadM.put {d M : Addr} {H : Hp} {B : Addr} {xs : List V} {o : HO} (b : BadM d M H B) (e : H M = some (.lst xs)) : BadAt d (upd H M o) B := by
  obtain ⟨l, w, r0, rs, i, y, h0, h1, h2, h3, h4, h5⟩ := b
  have nB : B ≠ M := fun z => by
    rw [z, e] at h2
    cases h2
  have nw : w ≠ M := fun z => by
    rw [z, e] at h4
    cases h4
  exact ⟨l, w, r0, rs, i, y, h1, (upd_ne nB).trans h2, (upd_ne h0).trans h3, (upd_ne nw).trans h4, h5⟩
theorem tab_putM {M t : Addr} {H : Hp} {xs : List V} {o : HO} (e : H M = some (.lst xs)) (h : TabG H t) : TabG (upd H M o) t := by
  obtain ⟨ps, e2, x⟩ := h
  have n : t ≠ M := fun z => by
    rw [z, e] at e2
    cases e2
  exact ⟨ps, (upd_ne n).trans e2, x⟩
/-- a law whose text has two defs with tables -/
def spLawT2 (K : PySem.W.Frag) (T1 T2 : Addr) : Sp := fun vs H Q _ => ∃ (a : Addr) (ns : List Int), vs = [.ref a] ∧ ns.length ≤ 63 ∧ SqL K H a (ns.map V.int) ∧ H T1 = some (.tbl #[]) ∧ H T2 = some (.tbl #[]) ∧ ∀ H', Q (.bl true) H'
section
variable {P : Program} {w : World} {K : PySem.W.Frag} {mg : Str → Option Value} {base : Heap} {T1 T2 : Addr}
abbrev nLaw : List Str := ["_law_script", "_law_d", "_law_t", "_law_rows", "_law_odd", "_law_heads", "_law_at", "_law_later", "_law_some", "_law_bad"]
theorem scLaw : FnScope nLaw ["_law_script"] (defScope s_law) := ⟨rfl, rfl, rfl, by decide +kernel, rfl, by decide +kernel, by decide +kernel⟩
theorem ok_lawK18 {f0 : Addr} {fd0 : FuncData} (F : FunD K "law" "law" (defArgs s_law) (defBody s_law) (defScope s_law) [] [] f0 fd0) (B : Blt mg) (ne : T1 ≠ T2) (DI : Has P w K mg base 1 "_law_dice" ["_law_script", "_law_k"] (spDice K)) (O : Has P w K mg base 1 "_law_off" ["_law_d", "_law_most"] spOff)
    (YA : Has P w K mg base 3 "_law_yard" ["_law_d", "_law_least", "_law_most"] spYard) (LX : Has P w K mg base 1 "_law_text" ["_law_t"] spLText) (RF : Has P w K mg base 7 "_law_refused" ["_law_rows", "_law_word", "_law_told"] (spRef18 T1 T2)) :
    FnOk P w K mg base CX0 8 f0 fd0 ["_law_script"] (spLawT2 K T1 T2) := by
  refine ok_of F scLaw (fun vs H Q E h => ?_) (fun f cdv A outer s H vs Q E hr h => ?_)
  · obtain ⟨a, ns, rfl, _⟩ := h
    rfl
  · obtain ⟨a, ns, rfl, hn, hS, ht1, ht2, q⟩ := h
    refine ⟨_, pss_cons (ps_set (i := 1) scLaw.nd rfl (.inl rfl) (pe_has DI hr (by decide) (by rfl) (pa_cons (pv 0) (pa_cons pe_int pa_nil))))
      (pss_cons (ps_set (i := 2) scLaw.nd rfl (.inl rfl) (pe_has YA hr (by decide) (by rfl) (pa_cons (pv 1) (pa_cons pe_int (pa_cons pe_int pa_nil)))))
      (pss_cons (ps_set (i := 3) scLaw.nd rfl (.inl rfl) (pe_split (pe_has LX hr (by decide) (by rfl) (pa_cons (pv 2) pa_nil)) pe_str))
      (pss_cons (ps_set (i := 4) scLaw.nd rfl (.inl rfl) (pe_lst (pa_cons pe_str (pa_cons pe_str (pa_cons pe_str (pa_cons pe_str (pa_cons pe_str (pa_cons pe_str (pa_cons pe_str (pa_cons pe_str (pa_cons pe_str (pa_cons pe_str pa_nil))))))))))))
      (pss_cons (ps_expr (pe_bm PySem.F.plainAttrs_list PySem.F.slot_list_append PySem.F.type_list_append mt_append (pv 4) (pa_cons pe_str pa_nil)))
      (pss_cons (ps_set (i := 4) scLaw.nd rfl (.inl rfl) (pe_op op_cat (pv 4) (pe_lst (pa_cons pe_str (pa_cons pe_str (pa_cons pe_str (pa_cons pe_str (pa_cons pe_str (pa_cons pe_str (pa_cons pe_str (pa_cons pe_str (pa_cons pe_str pa_nil))))))))))))
      (pss_cons (ps_set (i := 5) scLaw.nd rfl (.inl rfl) (pe_lst (pa_cons pe_str (pa_cons pe_str (pa_cons pe_str (pa_cons pe_str (pa_cons pe_str (pa_cons pe_str (pa_cons pe_str (pa_cons pe_str (pa_cons pe_str (pa_cons pe_str pa_nil))))))))))))
      (pss_cons (ps_expr (pe_bm PySem.F.plainAttrs_list PySem.F.slot_list_append PySem.F.type_list_append mt_append (pv 5) (pa_cons pe_str pa_nil)))
      (pss_cons (ps_set (i := 6) scLaw.nd rfl (.inl rfl) (pe_op op_add pe_int (pe_has O hr (by decide) (by rfl) (pa_cons (pv 1) (pa_cons (pe_callB call_len_seq (by rfl) B.len PySem.boot_len (pa_cons (pv 3) pa_nil)) pa_nil)))))
      (pss_cons (ps_set (i := 7) scLaw.nd rfl (.inl rfl) (pe_slice sl_list (pe_lst (pa_cons pe_str (pa_cons pe_str pa_nil))) po_none (po_some (pe_has O hr (by decide) (by rfl) (pa_cons (pv 1) (pa_cons pe_int pa_nil))))))
      (pss_cons (ps_if (pt_not (pt_val (pe_has RF hr (by decide) (by rfl) (pa_cons (pe_op op_cat (pe_op op_cat (pe_op op_cat (pe_slice sl_list (pv 3) po_none (po_some (pv 6))) (pe_lst (pa_cons (pe_ix (r := rIxL K) ix_list (pv 4) (pe_has O hr (by decide) (by rfl) (pa_cons (pv 1) (pa_cons pe_int pa_nil))) (fun _ _ => rfl)) pa_nil)))
          (pe_slice sl_list (pv 3) (po_some (pv 6)) po_none)) (pv 7)) (pa_cons pe_str (pa_cons (pv 6) pa_nil)))))) pss_never pss_nil)
      (pss_cons (ps_if (pt_not (pt_val (pe_has RF hr (by decide) (by rfl) (pa_cons (pe_op op_cat (pe_op op_cat (pe_lst (pa_cons (pe_ix (r := rIxL K) ix_list (pv 5) (pe_has O hr (by decide) (by rfl) (pa_cons (pv 1) (pa_cons pe_int pa_nil))) (fun _ _ => rfl)) pa_nil))
          (pe_slice sl_list (pv 3) (po_some pe_int) po_none)) (pv 7)) (pa_cons pe_str (pa_cons pe_int pa_nil)))))) pss_never pss_nil)
      (pss_cons (ps_set (i := 8) scLaw.nd rfl (.inl rfl) (pe_lst (pa_cons (pe_tup (pa_cons (pe_op op_cat (pe_lst (pa_cons pe_str pa_nil)) (pe_slice sl_list (pv 3) (po_some pe_int) po_none)) (pa_cons (pe_tup (pa_cons pe_int (pa_cons pe_str pa_nil))) pa_nil)))
          (pa_cons (pe_tup (pa_cons (pe_op op_cat (pe_lst (pa_cons pe_str pa_nil)) (pe_slice sl_list (pv 3) (po_some pe_int) po_none)) (pa_cons (pe_tup (pa_cons pe_int (pa_cons pe_str pa_nil))) pa_nil))) pa_nil))))
      (pss_cons (ps_set (i := 8) scLaw.nd rfl (.inl rfl) (pe_op op_cat (pv 8) (pe_lst (pa_cons (pe_tup (pa_cons (pe_op op_cat (pv 3) (pe_lst (pa_cons pe_str pa_nil))) (pa_cons (pe_tup (pa_cons (pe_callB call_len_seq (by rfl) B.len PySem.boot_len (pa_cons (pe_ix (r := rIxT K) ix_tup (pv 2) pe_int (fun _ _ => rfl)) pa_nil)) (pa_cons pe_str pa_nil))) pa_nil)))
          (pa_cons (pe_tup (pa_cons (pe_op op_cat (pv 3) (pe_lst (pa_cons pe_str (pa_cons pe_str pa_nil)))) (pa_cons (pe_tup (pa_cons (pe_callB call_len_seq (by rfl) B.len PySem.boot_len (pa_cons (pe_ix (r := rIxT K) ix_tup (pv 2) pe_int (fun _ _ => rfl)) pa_nil)) (pa_cons pe_str pa_nil))) pa_nil))) pa_nil)))))
      (pss_cons (ps_expr (pe_bm PySem.F.plainAttrs_list PySem.F.slot_list_append PySem.F.type_list_append mt_append (pv 8) (pa_cons (pe_tup (pa_cons (pe_lst (pa_cons pe_str (pa_cons pe_str (pa_cons pe_str (pa_cons pe_str pa_nil))))) (pa_cons (pe_tup (pa_cons pe_int (pa_cons pe_str pa_nil))) pa_nil))) pa_nil)))
      (pss_cons (ps_set (i := 9) scLaw.nd rfl (.inl rfl) (pe_ix (r := rIxL K) ix_list (pv 8) (pe_has O hr (by decide) (by rfl) (pa_cons (pv 1) (pa_cons pe_int pa_nil))) (fun _ _ => rfl)))
      (pss_one (ps_ret (pe_and (pe_has RF hr (by decide) (by rfl) (pa_cons (pe_ix (r := rIxT K) ix_tup (pv 9) pe_int (fun _ _ => rfl)) (pa_cons pe_str (pa_cons (pe_ix (r := rIxT K) ix_tup (pv 9) pe_int (fun _ _ => rfl)) pa_nil))))
        (pe_one (pe_has RF hr (by decide) (by rfl) (pa_cons (pe_op op_cat (pe_ix (r := rIxT K) ix_tup (pv 9) pe_int (fun _ _ => rfl)) (pe_lst (pa_cons pe_str pa_nil))) (pa_cons pe_str (pa_cons (pe_callB call_len_seq (by rfl) B.len PySem.boot_len (pa_cons (pe_ix (r := rIxT K) ix_tup (pv 9) pe_int (fun _ _ => rfl)) pa_nil)) pa_nil))))))))))))))))))))))), ?_⟩
    refine ⟨_, rfl, a, 0, ns, rfl, hS, hn, by omega, by omega, fun H1 d s1 nd hd => ?_⟩
    refine ⟨_, rfl, d, 2, 9, rfl, hd, by omega, by omega, by omega, fun H2 t tl n ps k2 hd2 nt ntl et pt ti l0 l1 => ?_⟩
    have lt2 : LawT H2 t n ps := ⟨tl, et, pt⟩
    have u1 : TabG H2 T1 := ⟨_, k2 _ _ (tab_dice hd ⟨_, s1 _ _ ht1, trivial⟩) (s1 _ _ ht1), trivial⟩
    have u2 : TabG H2 T2 := ⟨_, k2 _ _ (tab_dice hd ⟨_, s1 _ _ ht2, trivial⟩) (s1 _ _ ht2), trivial⟩
    have n9 : n ≤ 9 := by omega
    have n30 : n ≤ 30 := by omega
    have tlen := textOf_len n30 ti
    have nm := ti.num30 n30
    have l9 := ti.len900 n30
    have ss : 100002 ≤ sizeLine := by decide
    clear k2 nt ntl hd s1 hS nd pt et
    refine ⟨_, rfl, t, n, ps, rfl, lt2, ti, n30, fun H3 s3 => ?_⟩
    have g3 := Gd.same hd2 u1 u2 s3
    have lt3 := lt2.same s3
    refine ⟨⟨_, rfl⟩, textOf n ps, "\n", rfl, rfl, rfl, by omega, fun R nR => ?_⟩
    rw [split_text n30 nm]
    have Rd := Gd.ne g3.dice nR
    have g4 := Gd.new (o := .lst ((rowYard n :: ps.map rowTie).map V.str)) g3.dice g3.t1 g3.t2 nR
    have lt4 := lt3.same (same_new (o := .lst ((rowYard n :: ps.map rowTie).map V.str)) nR)
    have eR : upd H3 R (.lst ((rowYard n :: ps.map rowTie).map V.str)) R = some (.lst ((rowYard n :: ps.map rowTie).map V.str)) := upd_same
    generalize upd H3 R (.lst ((rowYard n :: ps.map rowTie).map V.str)) = H4 at g4 lt4 eR
    clear g3 lt3 s3 nR
    -- the odd rows
    refine ⟨by decide, fun O1 nO1 => ?_⟩
    have O1d := Gd.ne g4.dice nO1
    generalize h5 : upd H4 O1 _ = H5
    have s5 : Same H4 H5 := by rw [← h5]; exact same_new nO1
    have eO : H5 O1 = some (.lst ((odds.take 10).map V.str)) := by rw [← h5]; exact upd_same
    clear h5
    refine ⟨_, rfl, .inl ⟨rfl, _, SqL.of eO⟩, O1, _, _, rfl, rfl, eO, by decide, ?_⟩
    generalize h6 : upd H5 O1 _ = H6
    have s6 : Same H4 H6 := fun b o e => by rw [← h6]; exact (upd_ne (ne_of_none e nO1)).trans (s5 b o e)
    have eO6 : H6 O1 = some (.lst ((odds.take 11).map V.str)) := by rw [← h6]; exact upd_same
    clear h6 s5 eO
    refine ⟨_, rfl, by decide, fun p9 np9 => ?_⟩
    generalize h7 : upd H6 p9 _ = H7
    have s67 : Same H6 H7 := by rw [← h7]; exact same_new np9
    have e9 : H7 p9 = some (.lst ((odds.drop 11).map V.str)) := by rw [← h7]; exact upd_same
    refine ⟨O1, p9, _, _, rfl, rfl, s67 _ _ eO6, e9, by decide, fun O2 nO2 => ?_⟩
    generalize h8 : upd H7 O2 _ = H8
    have s78 : Same H7 H8 := by rw [← h8]; exact same_new nO2
    have eO : H8 O2 = some (.lst (odds.map V.str)) := by rw [← h8]; exact upd_same
    have s8 := s6.trans (s67.trans s78)
    have O2d : O2 ≠ d := fun z => by
      obtain ⟨o, h1, _⟩ := g4.dice
      have := (s6.trans s67) _ _ h1
      rw [← z, nO2] at this
      cases this
    clear h7 h8 s67 s78 e9 eO6 s6 nO1 np9 nO2
    -- the odd heads
    refine ⟨by decide, fun G1 nG1 => ?_⟩
    generalize h9 : upd H8 G1 _ = H9
    have s9 : Same H8 H9 := by rw [← h9]; exact same_new nG1
    have eG : H9 G1 = some (.lst ((heads.take 10).map V.str)) := by rw [← h9]; exact upd_same
    refine ⟨_, rfl, .inl ⟨rfl, _, SqL.of eG⟩, G1, _, _, rfl, rfl, eG, by decide, ?_⟩
    generalize hb : upd H9 G1 _ = Hb
    have sb : Same H8 Hb := fun b o e => by rw [← hb]; exact (upd_ne (ne_of_none e nG1)).trans (s9 b o e)
    have eGb : Hb G1 = some (.lst (heads.map V.str)) := by rw [← hb]; exact upd_same
    have G1d : G1 ≠ d := fun z => by
      obtain ⟨o, h1, _⟩ := g4.dice
      have := s8 _ _ h1
      rw [← z, nG1] at this
      cases this
    have gb := Gd.same g4.dice g4.t1 g4.t2 (s8.trans sb)
    have eRb := gb.lst Rd eR
    have ltb := lt4.gd gb
    have eOb := sb _ _ eO
    clear h9 hb s9 eG nG1 eO s8 sb eR lt4
    -- the place, the later rows
    have lrows : ((rowYard n :: ps.map rowTie).map V.str).length = ps.length + 1 := by rw [List.length_map, List.length_cons, List.length_map]
    obtain ⟨o1, ho1, do1⟩ := id gb.dice
    refine ⟨_, rfl, _, rfl, R, _, rfl, .inl (SqL.of eRb), d, _, o1, rfl, ho1, do1, by rw [lrows]; omega, by rw [lrows]; omega, fun r1 o1' r10 r11 d1' => ?_⟩
    rw [lrows] at r11
    obtain ⟨k, hk, rfl⟩ : ∃ k : Nat, k ≤ ps.length ∧ r1 = (k : Int) := ⟨r1.toNat, by omega, by omega⟩
    refine ⟨1, (k : Int), rfl, rfl, ?_⟩
    have eat : (1 : Int) + (k : Int) = ((k + 1 : Nat) : Int) := by omega
    simp only [eat]
    have c1 := Gd.off gb.dice gb.t1 gb.t2 d1'
    refine ⟨by decide, fun q1 nq1 => ?_⟩
    have q1d := Gd.ne c1.dice nq1
    generalize hx1 : upd (upd Hb d o1') q1 _ = X1
    have c2 : Gd d T1 T2 Hb X1 := c1.trans (by rw [← hx1]; exact Gd.new c1.dice c1.t1 c1.t2 nq1)
    have eq1 : X1 q1 = some (.lst (([("" : Str), "x"] : List Str).map V.str)) := by rw [← hx1]; exact upd_same
    clear hx1 nq1
    obtain ⟨o2, ho2, do2⟩ := id c2.dice
    refine ⟨_, rfl, d, 3, o2, rfl, ho2, do2, by decide, by decide, fun r2 o2' r20 r21 d2' => ?_⟩
    have c2o := Gd.off c2.dice c2.t1 c2.t2 d2'
    refine ⟨r2, rfl, q1, _, rfl, SqL.of (c2o.lst q1d eq1), fun L nL => ?_⟩
    obtain ⟨j2, rfl⟩ : ∃ j : Nat, r2 = (j : Int) := ⟨r2.toNat, by omega⟩
    have Ld := Gd.ne c2o.dice nL
    generalize hx2 : upd (upd X1 d o2') L _ = X2
    have c3 : Gd d T1 T2 Hb X2 := (c2.trans c2o).trans (by rw [← hx2]; exact Gd.new c2o.dice c2o.t1 c2o.t2 nL)
    have eL : X2 L = some (.lst ((([("" : Str), "x"] : List Str).take j2).map V.str)) := by
      rw [← hx2, upd_same, cut_to, List.map_take]
    generalize hla : ([("" : Str), "x"] : List Str).take j2 = later at eL
    have hlater : ∀ z ∈ later, 10 ∉ TL.tl z ∧ z.length ≤ 50 := fun z hz => later_ok z (by rw [← hla] at hz; exact List.mem_of_mem_take hz)
    have llater : later.length ≤ 2 := by rw [← hla, List.length_take]; exact Nat.min_le_right _ _
    clear hx2 nL hla c2o eq1 q1d
    have gX := c3
    -- an odd row among them
    have e1 := c3.lst Rd eRb
    refine ⟨_, rfl, _, rfl, _, rfl, R, _, rfl, SqL.of e1, fun pA nA => ?_⟩
    have pAd := Gd.ne c3.dice nA
    generalize hx : upd X2 pA _ = X3
    have st3 : Gd d T1 T2 X2 X3 := by rw [← hx]; exact Gd.new c3.dice c3.t1 c3.t2 nA
    have eA : X3 pA = some (.lst ((rowYard n :: (ps.map rowTie).take k).map V.str)) := by
      rw [← hx, upd_same, cut_to, ← List.map_take]
      rfl
    clear hx nA
    obtain ⟨o3, ho3, do3⟩ := id st3.dice
    refine ⟨_, rfl, _, rfl, d, 20, o3, rfl, ho3, do3, by decide, by decide, fun r3 o3' r30 r31 d3' => ?_⟩
    have st4 := Gd.off st3.dice st3.t1 st3.t2 d3'
    obtain ⟨j3, rfl⟩ : ∃ j : Nat, r3 = (j : Int) := ⟨r3.toNat, by omega⟩
    obtain ⟨odd, hodd⟩ : ∃ z, odds[j3]? = some z := ⟨_, List.getElem?_eq_getElem (by show j3 < 20; omega)⟩
    obtain ⟨w1, w2, w3⟩ := odds_ok odd (List.mem_of_getElem? hodd)
    have c4 := c3.trans (st3.trans st4)
    refine ⟨O2, _, _, _, rfl, rfl, SqL.of (c4.lst O2d eOb), atI_nat (j := j3) (by rw [List.getElem?_map, hodd]; rfl), by show 1 ≤ sizeLine; decide, fun pB nB => ?_⟩
    have pBd := Gd.ne c4.dice nB
    generalize hx : upd (upd X3 d o3') pB _ = X4
    have st5 : Gd d T1 T2 X3 X4 := st4.trans (by rw [← hx]; exact Gd.new st4.dice st4.t1 st4.t2 nB)
    have eB : X4 pB = some (.lst [V.str odd]) := by rw [← hx]; exact upd_same
    have eA4 := st5.lst pAd eA
    clear hx nB st4
    refine ⟨pA, pB, _, _, rfl, rfl, eA4, eB, ?_, fun p1 np1 => ?_⟩
    · rw [List.length_map, List.length_cons, List.length_take, List.length_map]
      show _ + 1 ≤ _
      omega
    have p1d := Gd.ne st5.dice np1
    generalize hx : upd X4 p1 _ = X5
    have st6 : Gd d T1 T2 X4 X5 := by rw [← hx]; exact Gd.new st5.dice st5.t1 st5.t2 np1
    have eP : X5 p1 = some (.lst ((rowYard n :: ((ps.map rowTie).take k ++ [odd])).map V.str)) := by
      rw [← hx, upd_same]
      simp
    clear hx np1 eA eA4 eB
    have c5 := c3.trans (st3.trans (st5.trans st6))
    refine ⟨_, rfl, _, rfl, _, rfl, R, _, rfl, SqL.of (c5.lst Rd eRb), fun pC nC => ?_⟩
    generalize hx : upd X5 pC _ = X6
    have st7 : Gd d T1 T2 X5 X6 := by rw [← hx]; exact Gd.new c5.dice c5.t1 c5.t2 nC
    have eC : X6 pC = some (.lst (((ps.map rowTie).drop k).map V.str)) := by
      rw [← hx, upd_same, cut_from, ← List.map_drop]
      rfl
    have eP6 := st7.lst p1d eP
    clear hx nC
    refine ⟨p1, pC, _, _, rfl, rfl, eP6, eC, ?_, fun p2 np2 => ?_⟩
    · simp only [List.length_map, List.length_cons, List.length_append, List.length_take, List.length_drop, List.length_nil]
      omega
    have p2d := Gd.ne st7.dice np2
    generalize hx : upd X6 p2 _ = X7
    have st8 : Gd d T1 T2 X6 X7 := by rw [← hx]; exact Gd.new st7.dice st7.t1 st7.t2 np2
    have eP7 : X7 p2 = some (.lst ((rowYard n :: ((ps.map rowTie).take k ++ [odd] ++ (ps.map rowTie).drop k)).map V.str)) := by
      rw [← hx, upd_same]
      simp
    clear hx np2 eC eP eP6
    have st38 : Gd d T1 T2 X2 X7 := st3.trans (st5.trans (st6.trans (st7.trans st8)))
    have eL7 := st38.lst Ld eL
    refine ⟨_, rfl, p2, L, _, _, rfl, rfl, eP7, eL7, ?_, fun p3 np3 => ?_⟩
    · simp only [List.length_map, List.length_cons, List.length_append, List.length_take, List.length_drop, List.length_nil]
      omega
    generalize hx : upd X7 p3 _ = X8
    have st9 : Gd d T1 T2 X7 X8 := by rw [← hx]; exact Gd.new st8.dice st8.t1 st8.t2 np3
    have eP8 : X8 p3 = some (.lst ((rowYard n :: ((ps.map rowTie).take k ++ [odd] ++ (ps.map rowTie).drop k ++ later)).map V.str)) := by
      rw [← hx, upd_same]
      simp
    clear hx np3 eP7 eL7
    have c8 := c3.trans (st38.trans st9)
    refine ⟨_, rfl, p3, rowYard n, (ps.map rowTie).take k ++ [odd] ++ (ps.map rowTie).drop k ++ later, "text", .int ((k + 1 : Nat) : Int), rfl, eP8, fun r hrr => ?_, ?_, ne, c8.t1, c8.t2, .inl ⟨rfl, k + 1, rfl, ?_⟩, fun X9 g9 => ?_⟩
    · simp only [List.mem_cons, List.mem_append, List.not_mem_nil, or_false] at hrr
      rcases hrr with z | ((z | z) | z) | z
      · rw [z]
        exact yard_ok n30
      · exact rest_ok n30 ti r (List.mem_of_mem_take z)
      · rw [z]
        exact ⟨w1, w2⟩
      · exact rest_ok n30 ti r (List.mem_of_mem_drop z)
      · exact hlater r z
    · simp only [List.length_append, List.length_take, List.length_drop, List.length_map, List.length_cons, List.length_nil]
      omega
    · rw [List.append_assoc, List.append_assoc]
      exact ref_odd n30 ti k hk l9 odd w3 _
    refine ⟨_, rfl, iteF ?_⟩
    have g9' := Gd.gw c8.dice g9
    have c9 := c8.trans g9'
    have stL := st38.trans (st9.trans g9')
    clear g9 g9' c8 st38 st9 st8 st7 st6 st5 st3 c5 c4 gX e1 eP8 w1 w2 w3 hodd
    -- an odd head
    obtain ⟨o4, ho4, do4⟩ := id c9.dice
    refine ⟨_, rfl, _, rfl, d, 11, o4, rfl, ho4, do4, by decide, by decide, fun r4 o4' r40 r41 d4' => ?_⟩
    have t1_ := Gd.off c9.dice c9.t1 c9.t2 d4'
    obtain ⟨j4, rfl⟩ : ∃ j : Nat, r4 = (j : Int) := ⟨r4.toNat, by omega⟩
    obtain ⟨hd4, hh4⟩ : ∃ z, heads[j4]? = some z := ⟨_, List.getElem?_eq_getElem (by show j4 < 11; omega)⟩
    obtain ⟨v1, v2, v3⟩ := heads_ok hd4 (List.mem_of_getElem? hh4)
    have c10 := c9.trans t1_
    refine ⟨G1, _, _, _, rfl, rfl, SqL.of (c10.lst G1d eGb), atI_nat (j := j4) (by rw [List.getElem?_map, hh4]; rfl), by show 1 ≤ sizeLine; decide, fun pB nB => ?_⟩
    have pBd := Gd.ne c10.dice nB
    generalize hx : upd (upd X9 d o4') pB _ = Y1
    have t2_ : Gd d T1 T2 X9 Y1 := t1_.trans (by rw [← hx]; exact Gd.new t1_.dice t1_.t1 t1_.t2 nB)
    have eB : Y1 pB = some (.lst [V.str hd4]) := by rw [← hx]; exact upd_same
    clear hx nB t1_ c10
    have c11 := c9.trans t2_
    refine ⟨_, rfl, 1, rfl, R, _, rfl, SqL.of (c11.lst Rd eRb), fun pC nC => ?_⟩
    generalize hx : upd Y1 pC _ = Y2
    have t3_ : Gd d T1 T2 Y1 Y2 := by rw [← hx]; exact Gd.new c11.dice c11.t1 c11.t2 nC
    have eC : Y2 pC = some (.lst ((ps.map rowTie).map V.str)) := by
      have e : cutV ((rowYard n :: ps.map rowTie).map V.str) (some 1) none = (ps.map rowTie).map V.str := cut_from _ 1
      rw [← hx, upd_same, e]
    have eB2 := t3_.lst pBd eB
    clear hx nC
    refine ⟨pB, pC, _, _, rfl, rfl, eB2, eC, ?_, fun p1 np1 => ?_⟩
    · simp only [List.length_map, List.length_cons, List.length_nil]
      omega
    have p1d := Gd.ne t3_.dice np1
    generalize hx : upd Y2 p1 _ = Y3
    have t4_ : Gd d T1 T2 Y2 Y3 := by rw [← hx]; exact Gd.new t3_.dice t3_.t1 t3_.t2 np1
    have eP : Y3 p1 = some (.lst ((hd4 :: ps.map rowTie).map V.str)) := by
      rw [← hx, upd_same]
      rfl
    clear hx np1 eB eB2 eC
    have stY : Gd d T1 T2 X9 Y3 := t2_.trans (t3_.trans t4_)
    have eL3 := (stL.trans stY).lst Ld eL
    refine ⟨_, rfl, p1, L, _, _, rfl, rfl, eP, eL3, ?_, fun p2 np2 => ?_⟩
    · simp only [List.length_map, List.length_cons]
      omega
    generalize hx : upd Y3 p2 _ = Y4
    have t5_ : Gd d T1 T2 Y3 Y4 := by rw [← hx]; exact Gd.new t4_.dice t4_.t1 t4_.t2 np2
    have eP4 : Y4 p2 = some (.lst ((hd4 :: (ps.map rowTie ++ later)).map V.str)) := by
      rw [← hx, upd_same]
      simp
    clear hx np2 eP eL3
    have c12 := c9.trans (stY.trans t5_)
    refine ⟨p2, hd4, ps.map rowTie ++ later, "text", .int ((0 : Nat) : Int), rfl, eP4, fun r hrr => ?_, ?_, ne, c12.t1, c12.t2, .inl ⟨rfl, 0, rfl, .inl ⟨v3, rfl⟩⟩, fun Y5 g5 => ?_⟩
    · simp only [List.mem_cons, List.mem_append] at hrr
      rcases hrr with z | z | z
      · rw [z]
        exact ⟨v1, v2⟩
      · exact rest_ok n30 ti r z
      · exact hlater r z
    · simp only [List.length_append, List.length_map]
      omega
    refine ⟨_, rfl, iteF ?_⟩
    have cy := c12.trans (Gd.gw c12.dice g5)
    clear g5 c12 t5_ stY t4_ t3_ t2_ c11 c9 eP4 stL v1 v2 v3 hh4
    have eR5 := cy.lst Rd eRb
    have lt5 := ltb.gd cy
    -- the bad texts
    refine next_go ?_
    dsimp only
    refine seq_go ?_
    refine asg_go ?_
    refine lst2 ?_
    refine item_head (K := K) (hd := "yard 0") (m := 0) cy.dice cy.t1 cy.t2 (by rfl) Rd eR5 n30 ti l9 (by decide +kernel) (by omega) (by decide +kernel) fun B1 Z1 s1 b1 => ?_
    refine item_head (K := K) (hd := "yard 31") (m := 31) s1.dice s1.t1 s1.t2 (by rfl) Rd (s1.lst Rd eR5) n30 ti l9 (by decide +kernel) (by omega) (by decide +kernel) fun B2 Z2 s2 b2 => ?_
    refine ⟨by show 2 ≤ sizeLine; decide, fun M nM => ?_⟩
    have Md := Gd.ne s2.dice nM
    generalize hx : upd Z2 M _ = Z3
    have s3 : Gd d T1 T2 Z2 Z3 := by rw [← hx]; exact Gd.new s2.dice s2.t1 s2.t2 nM
    have eM : Z3 M = some (.lst [.ref B1, .ref B2]) := by rw [← hx]; exact upd_same
    clear hx nM
    have c13 := s1.trans (s2.trans s3)
    have eR6 := c13.lst Rd eR5
    have lt6 := lt5.gd c13
    have b1' := (b1.gd s2).gd s3
    have b2' := b2.gd s3
    clear b1 b2
    refine ⟨_, rfl, ?_⟩
    refine lst2 ?_
    refine item_tail (xs := ["tie 1 0"]) (p0 := (1, 0)) (rest := []) (fun _ _ _ z => z) s3.dice s3.t1 s3.t2 (by rfl) (by rfl) Rd eR6 lt6 (by omega) n30 ti (by have := pairs9 n9 ti; omega) rfl (by decide) (tail1) (fun z => absurd z.2.1 (by decide)) (by decide +kernel) fun B3 Z4 s4 b3 => ?_
    refine item_tail (xs := ["tie 0 99", "tie 0 0"]) (p0 := (0, 99)) (rest := [(0, 0)]) (fun _ _ _ z => z) s4.dice s4.t1 s4.t2 (by rfl) (by rfl) Rd (s4.lst Rd eR6) (lt6.gd s4) (by omega) n30 ti (by have := pairs9 n9 ti; omega) rfl (by decide) (tail2) (by omega) (by decide +kernel) fun B4 Z5 s5 b4 => ?_
    refine ⟨by show 2 ≤ sizeLine; decide, fun M2 nM2 => ?_⟩
    have M2d := Gd.ne s5.dice nM2
    generalize hx : upd Z5 M2 _ = Z6
    have s6 : Gd d T1 T2 Z5 Z6 := by rw [← hx]; exact Gd.new s5.dice s5.t1 s5.t2 nM2
    have eM2 : Z6 M2 = some (.lst [.ref B3, .ref B4]) := by rw [← hx]; exact upd_same
    clear hx nM2
    have s46 := s4.trans (s5.trans s6)
    refine ⟨M, M2, _, _, rfl, rfl, s46.lst Md eM, eM2, by show 4 ≤ sizeLine; decide, fun M3 nM3 => ?_⟩
    have M3d := Gd.ne s6.dice nM3
    generalize hx : upd Z6 M3 _ = Z7
    have s7 : Gd d T1 T2 Z6 Z7 := by rw [← hx]; exact Gd.new s6.dice s6.t1 s6.t2 nM3
    have eM3 : Z7 M3 = some (.lst [.ref B1, .ref B2, .ref B3, .ref B4]) := by rw [← hx]; exact upd_same
    have bb1 := ((b1'.gd s46).m nM3).gd s7
    have bb2 := ((b2'.gd s46).m nM3).gd s7
    have bb3 := (((b3.gd s5).gd s6).m nM3).gd s7
    have bb4 := ((b4.gd s6).m nM3).gd s7
    clear hx nM3 eM2 b1' b2' b3 b4 eM
    -- one tie twice
    refine ⟨_, rfl, .inl ⟨rfl, _, SqL.of eM3⟩, by show 4 ≤ sizeLine; decide, fun l5 nl5 => ?_⟩
    have l5d := Gd.ne s7.dice nl5
    generalize hx : upd Z7 l5 _ = Z8
    have s8 : Gd d T1 T2 Z7 Z8 := by rw [← hx]; exact Gd.new s7.dice s7.t1 s7.t2 nl5
    have el5 : Z8 l5 = some (.lst ((("yard 3" : Str) :: ["tie 0 1", "tie 1 2", "tie 0 1"]).map V.str)) := by rw [← hx]; exact upd_same
    have l5M := (ne_of_none eM3 nl5).symm
    clear hx nl5
    refine ⟨by show 2 ≤ sizeLine; decide, fun w5 nw5 => ?_⟩
    generalize hx : upd Z8 w5 _ = Z9
    have s9 : Gd d T1 T2 Z8 Z9 := by rw [← hx]; exact Gd.new s8.dice s8.t1 s8.t2 nw5
    have ew5 : Z9 w5 = some (.tup [.int ((2 : Nat) : Int), .str "twice"]) := by rw [← hx]; exact upd_same
    clear hx nw5
    refine ⟨by show 2 ≤ sizeLine; decide, fun B5 nB5 => ?_⟩
    generalize hx : upd Z9 B5 _ = Z10
    have s10 : Gd d T1 T2 Z9 Z10 := by rw [← hx]; exact Gd.new s9.dice s9.t1 s9.t2 nB5
    have eB5 : Z10 B5 = some (.tup [.ref l5, .ref w5]) := by rw [← hx]; exact upd_same
    clear hx nB5
    have s810 := s8.trans (s9.trans s10)
    have bb5 : BadM d M3 Z10 B5 := ⟨l5, w5, "yard 3", ["tie 0 1", "tie 1 2", "tie 0 1"], 2, "twice", l5M, l5d, eB5, (s9.trans s10).lst l5d el5, s10.tup ew5, twice_ok, by decide +kernel, by decide⟩
    have em := s810.lst M3d eM3
    refine ⟨M3, _, _, rfl, rfl, em, by show 4 < sizeLine; decide, ?_⟩
    generalize hx : upd Z10 M3 _ = Za
    have zd : DiceAt Za d := by
      obtain ⟨o, h1, h2⟩ := id s10.dice
      rw [← hx]
      exact ⟨o, (upd_ne M3d.symm).trans h1, h2⟩
    have z1 : TabG Za T1 := by rw [← hx]; exact tab_putM em s10.t1
    have z2 : TabG Za T2 := by rw [← hx]; exact tab_putM em s10.t2
    have eMa : Za M3 = some (.lst [.ref B1, .ref B2, .ref B3, .ref B4, .ref B5]) := by rw [← hx]; exact upd_same
    have a1 : BadAt d Za B1 := by rw [← hx]; exact (bb1.gd s810).put em
    have a2 : BadAt d Za B2 := by rw [← hx]; exact (bb2.gd s810).put em
    have a3 : BadAt d Za B3 := by rw [← hx]; exact (bb3.gd s810).put em
    have a4 : BadAt d Za B4 := by rw [← hx]; exact (bb4.gd s810).put em
    have a5 : BadAt d Za B5 := by rw [← hx]; exact bb5.put em
    clear hx bb1 bb2 bb3 bb4 bb5
    -- one of them
    obtain ⟨o6, ho6, do6⟩ := id zd
    refine ⟨_, rfl, _, rfl, d, 5, o6, rfl, ho6, do6, by decide, by decide, fun r6 o6' r60 r61 d6' => ?_⟩
    have q1 := Gd.off zd z1 z2 d6'
    obtain ⟨j6, rfl⟩ : ∃ j : Nat, r6 = (j : Int) := ⟨r6.toNat, by omega⟩
    have j65 : j6 < 5 := by omega
    obtain ⟨B, hB, bB⟩ : ∃ B, ([V.ref B1, .ref B2, .ref B3, .ref B4, .ref B5] : List V)[j6]? = some (.ref B) ∧ BadAt d Za B := by
      match j6, j65 with
      | 0, _ => exact ⟨B1, rfl, a1⟩
      | 1, _ => exact ⟨B2, rfl, a2⟩
      | 2, _ => exact ⟨B3, rfl, a3⟩
      | 3, _ => exact ⟨B4, rfl, a4⟩
      | 4, _ => exact ⟨B5, rfl, a5⟩
    obtain ⟨l, w_, r0, rs, i, y, ld, eB, el, ew, wr, rows, len⟩ := bB.gd q1
    refine ⟨M3, _, _, _, rfl, rfl, SqL.of (q1.lst M3d eMa), atI_nat (j := j6) hB, ?_⟩
    refine ⟨_, rfl, B, _, _, _, rfl, rfl, SqT.of eB, atI_nat (j := 0) rfl, ?_⟩
    refine ⟨_, rfl, B, _, _, _, rfl, rfl, SqT.of eB, atI_nat (j := 1) rfl, ?_⟩
    refine ⟨l, r0, rs, "yard", .ref w_, rfl, el, rows, by omega, ne, q1.t1, q1.t2, .inr ⟨rfl, w_, i, y, rfl, ew, wr⟩, fun H7 g7 => ?_⟩
    refine ⟨_, rfl, iteT ?_⟩
    have q2 := Gd.gw q1.dice g7
    refine ⟨_, rfl, B, _, _, _, rfl, rfl, SqT.of (q2.tup eB), atI_nat (j := 0) rfl, ?_⟩
    refine ⟨by show 1 ≤ sizeLine; decide, fun xx nxx => ?_⟩
    generalize hx : upd H7 xx _ = H8
    have q3 : Gd d T1 T2 H7 H8 := by rw [← hx]; exact Gd.new q2.dice q2.t1 q2.t2 nxx
    have exx : H8 xx = some (.lst [V.str "x"]) := by rw [← hx]; exact upd_same
    clear hx nxx
    have el8 := (q2.trans q3).lst ld el
    refine ⟨l, xx, _, _, rfl, rfl, el8, exx, ?_, fun y2 ny2 => ?_⟩
    · simp only [List.length_map, List.length_cons, List.length_nil]
      omega
    generalize hx : upd H8 y2 _ = H9
    have q4 : Gd d T1 T2 H8 H9 := by rw [← hx]; exact Gd.new q3.dice q3.t1 q3.t2 ny2
    have ey : H9 y2 = some (.lst ((r0 :: (rs ++ [("x" : Str)])).map V.str)) := by
      rw [← hx, upd_same]
      simp
    clear hx ny2
    have q24 := q2.trans (q3.trans q4)
    refine ⟨_, rfl, B, _, _, _, rfl, rfl, SqT.of (q24.tup eB), atI_nat (j := 0) rfl, l, _, rfl, .inl (SqL.of (q24.lst ld el)), ?_⟩
    refine ⟨y2, r0, rs ++ [("x" : Str)], "text", _, rfl, ey, fun r hrr => ?_, by rw [List.length_append, List.length_cons, List.length_nil]; omega, ne, q24.t1, q24.t2, .inl ⟨rfl, rs.length + 1, by rw [List.length_map]; rfl, refT_of wr⟩, fun H10 _ => q H10⟩
    rcases List.mem_cons.mp hrr with z | z
    · exact rows r (by rw [z]; exact List.mem_cons_self)
    · rcases List.mem_append.mp z with z | z
      · exact rows r (List.mem_cons_of_mem _ z)
      · exact later_ok r (by rw [List.mem_singleton.mp z]; exact List.mem_cons_of_mem _ List.mem_cons_self)
end
end DR

set_option Elab.async false
set_option linter.all false
set_option maxRecDepth 100000
set_option maxHeartbeats 0
namespace DR
open PySem PySem.Spec PyProof.Rows L2
/-! ### the head -/
def d__wall : He.DefD := ⟨("_wall", none), "_wall", "_wall", defArgs s__wall, defBody s__wall, defScope s__wall, [], []⟩
def d_check_yard : He.DefD := ⟨("check_yard", none), "check_yard", "check_yard", defArgs s_check_yard, defBody s_check_yard, defScope s_check_yard, [], []⟩
def d_is_number : He.DefD := ⟨("is_number", none), "is_number", "is_number", defArgs s_is_number, defBody s_is_number, defScope s_is_number, [], []⟩
def d_numbers_of : He.DefD := ⟨("numbers_of", none), "numbers_of", "numbers_of", defArgs s_numbers_of, defBody s_numbers_of, defScope s_numbers_of, [], []⟩
def d_read : He.DefD := ⟨("read", none), "read", "read", defArgs s_read, defBody s_read, defScope s_read, [], []⟩
def d__law_dice : He.DefD := ⟨("_law_dice", none), "_law_dice", "_law_dice", defArgs s__law_dice, defBody s__law_dice, defScope s__law_dice, [], []⟩
def d__law_off : He.DefD := ⟨("_law_off", none), "_law_off", "_law_off", defArgs s__law_off, defBody s__law_off, defScope s__law_off, [], []⟩
def d__law_alike : He.DefD := ⟨("_law_alike", none), "_law_alike", "_law_alike", defArgs s__law_alike, defBody s__law_alike, defScope s__law_alike, [], []⟩
def d__law_pairs : He.DefD := ⟨("_law_pairs", none), "_law_pairs", "_law_pairs", defArgs s__law_pairs, defBody s__law_pairs, defScope s__law_pairs, [], []⟩
def d__law_mixed : He.DefD := ⟨("_law_mixed", none), "_law_mixed", "_law_mixed", defArgs s__law_mixed, defBody s__law_mixed, defScope s__law_mixed, [], []⟩
def d__law_yard : He.DefD := ⟨("_law_yard", none), "_law_yard", "_law_yard", defArgs s__law_yard, defBody s__law_yard, defScope s__law_yard, [], []⟩
def d__law_is : He.DefD := ⟨("_law_is", none), "_law_is", "_law_is", defArgs s__law_is, defBody s__law_is, defScope s__law_is, [], []⟩
def d__law_text : He.DefD := ⟨("_law_text", none), "_law_text", "_law_text", defArgs s__law_text, defBody s__law_text, defScope s__law_text, [], []⟩
def d__law_refused : He.DefD := ⟨("_law_refused", none), "_law_refused", "_law_refused", defArgs s__law_refused, defBody s__law_refused, defScope s__law_refused, [], []⟩
def d_law : He.DefD := ⟨("law", none), "law", "law", defArgs s_law, defBody s_law, defScope s_law, [], []⟩
def dm_init : He.DefD := ⟨("Yard", some "__init__"), "__init__", "Yard.__init__", defArgs s_Yard_init, defBody s_Yard_init, defScope s_Yard_init, [], []⟩
def dm_many : He.DefD := ⟨("Yard", some "many"), "many", "Yard.many", defArgs s_Yard_many, defBody s_Yard_many, defScope s_Yard_many, [], []⟩
def dm_ties : He.DefD := ⟨("Yard", some "ties"), "ties", "Yard.ties", defArgs s_Yard_ties, defBody s_Yard_ties, defScope s_Yard_ties, [], []⟩
def dm_is_tied : He.DefD := ⟨("Yard", some "is_tied"), "is_tied", "Yard.is_tied", defArgs s_Yard_is_tied, defBody s_Yard_is_tied, defScope s_Yard_is_tied, [], []⟩
def dm_degree : He.DefD := ⟨("Yard", some "degree"), "degree", "Yard.degree", defArgs s_Yard_degree, defBody s_Yard_degree, defScope s_Yard_degree, [], []⟩
def dx_BadYard : He.DefD := ⟨("BadYard", some "__init__"), "__init__", "BadYard.__init__", defArgs s_BadYard_init, defBody s_BadYard_init, defScope s_BadYard_init, [], []⟩
def dx_BadText : He.DefD := ⟨("BadText", some "__init__"), "__init__", "BadText.__init__", defArgs s_BadText_init, defBody s_BadText_init, defScope s_BadText_init, [], []⟩
def hfn : List He.DefD := [d__wall, d_check_yard, d_is_number, d_numbers_of, d_read, d__law_dice, d__law_off, d__law_alike, d__law_pairs, d__law_mixed, d__law_yard, d__law_is, d__law_text, d__law_refused, d_law, dm_init, dm_many, dm_ties, dm_is_tied, dm_degree, dx_BadYard, dx_BadText]
def hfa : List He.Fa := [.glo "_wall", .glo "check_yard", .glo "is_number", .glo "numbers_of", .glo "read", .glo "_law_dice", .glo "_law_off", .glo "_law_alike", .glo "_law_pairs", .glo "_law_mixed", .glo "_law_yard", .glo "_law_is", .glo "_law_text", .glo "_law_refused", .glo "law", .free "abs", .free "all", .free "bool", .free "dict", .free "enumerate", .free "int", .free "isinstance", .free "len", .free "list", .free "max", .free "min", .free "range", .free "set", .free "sorted", .free "str", .free "tuple", .free "zip", .int "MOST_PLACES" 30, .glo "Yard", .cls "Yard", .noat "Yard" "_many", .noat "Yard" "_ties", .noat "Yard" "_tied", .noat "Yard" "_degrees", .meth "Yard" "many", .meth "Yard" "ties", .meth "Yard" "is_tied", .meth "Yard" "degree", .mkr "Yard", .meth "BadYard" "__init__", .meth "BadText" "__init__", .str "FIGURES" "0123456789", .glo "BadYard", .glo "BadOrder", .glo "TooMany", .glo "BadText", .glo "YardError", .free "ValueError", .noat "BadYard" "at", .noat "BadYard" "why", .exm "BadYard" "YardError" true, .noat "BadText" "row", .exm "BadText" "YardError" true]
abbrev hR : PySem.W.OpenRow := PySem.W.OpenLaw.row PySem.Challenge.rw_denseround_k18_texts_refused
/-- what isinstance asks of a class, and its answers -/
def hexc (K : PySem.W.Frag) (D : Addr) : Bool := decide (PySem.W.findIn K (.ref D) "__getattribute__" = some (some (.builtin "BaseException.__getattribute__"))) && (decide (PySem.W.findIn K (.ref D) "__getattr__" = some none) && (decide (PySem.W.subIn K (.ref D) (.type "BaseException") = some true) && (PySem.W.hasDictIn K D &&
  (decide (PySem.W.findIn K (.ref D) "__class__" = some (some (.builtin "object.__class__"))) && (decide (PySem.W.specialIn K (.builtin "object.__class__") "__get__" = some (some (.builtin "getset_descriptor.__get__"))) && (decide (PySem.W.takesIn K (.builtin "object.__class__") = some true) && decide (PySem.W.mroIn K D (.type "object") = some true)))))))
theorem hexc_ok {K : PySem.W.Frag} {D : Addr} (h : hexc K D = true) : ExcC K D := by
  unfold hexc at h
  simp only [Bool.and_eq_true, decide_eq_true_eq] at h
  exact ⟨h.1, h.2.1, h.2.2.1, h.2.2.2.1, h.2.2.2.2.1, h.2.2.2.2.2.1, h.2.2.2.2.2.2.1, h.2.2.2.2.2.2.2⟩
def hkit (K : PySem.W.Frag) (D : Addr) (v : Value) (b : Bool) : Bool := decide (PySem.W.kitOne K (.ref D) v = some b)
/-- what is asked of BadYard -/
def hbad (K : PySem.W.Frag) (C : Addr) : Bool := oexB K C && (decide (PySem.W.findIn K (.ref C) "__setattr__" = some (some (.builtin "object.__setattr__"))) && (decide (PySem.W.subIn K (.ref C) (.type "BaseException") = some true) && (decide (PySem.W.typeIn K (.ref C) = some (.type "type")) && PySem.W.keepIn K (.ref C))))
theorem hbad_ok {K : PySem.W.Frag} {C : Addr} (h : hbad K C = true) : OexC K C := by
  unfold hbad at h
  simp only [Bool.and_eq_true, decide_eq_true_eq] at h
  exact ⟨oexB_ok h.1, h.2.1, h.2.2.1, h.2.2.2.1, h.2.2.2.2⟩
def hbase (K : PySem.W.Frag) (CE : Addr) : Bool := decide (PySem.W.specialIn K (.ref CE) "__getattribute__" = some (some (.builtin "type.__getattribute__"))) && (PySem.W.readsIn K CE (.type "type") && (match PySem.W.findCls K (.ref CE) (.type "type") "__init__" with
  | some (.val (.builtin b)) => decide (b = "ValueError.__init__")
  | _ => false))
theorem hbase_ok {K : PySem.W.Frag} {CE : Addr} (h : hbase K CE = true) : BaseX K CE := by
  unfold hbase at h
  obtain ⟨h1, h⟩ := Bool.and_eq_true_iff.mp h
  obtain ⟨h2, h3⟩ := Bool.and_eq_true_iff.mp h
  refine ⟨of_decide_eq_true h1, h2, ?_⟩
  split at h3
  · rename_i b e
    rw [e, of_decide_eq_true h3]
  · cases h3
def hkits (K : PySem.W.Frag) (x : Str) (a b c d : Bool) : Bool := hexc K (He.ga K x) && (hkit K (He.ga K x) (.type "ValueError") true && (hkit K (He.ga K x) (.ref (He.ga K "BadYard")) a && (hkit K (He.ga K x) (.ref (He.ga K "BadOrder")) b &&
  (hkit K (He.ga K x) (.ref (He.ga K "TooMany")) c && hkit K (He.ga K x) (.ref (He.ga K "BadText")) d))))
def hex (K : PySem.W.Frag) : Bool := decide (He.tabOf K (He.codeOf K ("is_number", none)) ≠ He.tabOf K (He.codeOf K ("numbers_of", none))) && (((hbad K (He.ga K "BadYard") && (hbase K (He.ga K "YardError") && xfB K (He.ga K "BadYard"))) && (hbad K (He.ga K "BadText") && xfB K (He.ga K "BadText"))) &&
  (hkits K "BadYard" true false false false && hkits K "BadText" false false false true))

abbrev hk : PySem.W.Hook := DR.hookY 4 hfa hfn [] [("is_number", none), ("numbers_of", none)] hex
def hob (s : PySem.W.SharedT) : He.AlX := DR.obsY 4 hfa hfn [] [("is_number", none), ("numbers_of", none)] hex (HandSHeadRun.getT s)
theorem hob_eq (s : PySem.W.SharedT) : hob s = hk.obs s.abs := DR.obsY_eq (HandSHeadRun.getT_eq s)
abbrev hloose : List PySem.Str := ("_wall" : PySem.Str) :: ("YardError" : PySem.Str) :: ("BadYard" : PySem.Str) :: ("BadOrder" : PySem.Str) :: ("TooMany" : PySem.Str) :: ("BadText" : PySem.Str) :: ("MOST_PLACES" : PySem.Str) :: ("check_yard" : PySem.Str) :: ("Yard" : PySem.Str) :: ("FIGURES" : PySem.Str) :: ("is_number" : PySem.Str) :: ("numbers_of" : PySem.Str) :: ("read" : PySem.Str) :: ("_law_dice" : PySem.Str) :: ("_law_off" : PySem.Str) :: ("_law_alike" : PySem.Str) :: ("_law_pairs" : PySem.Str) :: ("_law_mixed" : PySem.Str) :: ("_law_yard" : PySem.Str) :: ("_law_is" : PySem.Str) :: ("_law_text" : PySem.Str) :: ("_law_refused" : PySem.Str) :: []
theorem hrun (w : World) : HandSHeadRun.RunEq hR (PySem.W.view hR.prog [26]) hk hob 4000 hloose w := by
  intro os
  kernel_rfl
section
variable {K : PySem.W.Frag} {h : Heap} {mg : Str → Option Value}
theorem is__wall (X : K.In h) (G : h.Ns mainGlobals mg) (c : He.SaysD hfa hfn K) : IsDef K mg "_wall" s__wall := by
  obtain ⟨fd, F⟩ := c.def_ 0 (d := d__wall) rfl
  exact ⟨_, fd, F, He.glo_ok X G (c.fact 0 (f := .glo "_wall") rfl)⟩
theorem is_check_yard (X : K.In h) (G : h.Ns mainGlobals mg) (c : He.SaysD hfa hfn K) : IsDef K mg "check_yard" s_check_yard := by
  obtain ⟨fd, F⟩ := c.def_ 1 (d := d_check_yard) rfl
  exact ⟨_, fd, F, He.glo_ok X G (c.fact 1 (f := .glo "check_yard") rfl)⟩
theorem is_is_number (X : K.In h) (G : h.Ns mainGlobals mg) (c : He.SaysD hfa hfn K) : IsDef K mg "is_number" s_is_number := by
  obtain ⟨fd, F⟩ := c.def_ 2 (d := d_is_number) rfl
  exact ⟨_, fd, F, He.glo_ok X G (c.fact 2 (f := .glo "is_number") rfl)⟩
theorem is_numbers_of (X : K.In h) (G : h.Ns mainGlobals mg) (c : He.SaysD hfa hfn K) : IsDef K mg "numbers_of" s_numbers_of := by
  obtain ⟨fd, F⟩ := c.def_ 3 (d := d_numbers_of) rfl
  exact ⟨_, fd, F, He.glo_ok X G (c.fact 3 (f := .glo "numbers_of") rfl)⟩
theorem is_read (X : K.In h) (G : h.Ns mainGlobals mg) (c : He.SaysD hfa hfn K) : IsDef K mg "read" s_read := by
  obtain ⟨fd, F⟩ := c.def_ 4 (d := d_read) rfl
  exact ⟨_, fd, F, He.glo_ok X G (c.fact 4 (f := .glo "read") rfl)⟩
theorem is__law_dice (X : K.In h) (G : h.Ns mainGlobals mg) (c : He.SaysD hfa hfn K) : IsDef K mg "_law_dice" s__law_dice := by
  obtain ⟨fd, F⟩ := c.def_ 5 (d := d__law_dice) rfl
  exact ⟨_, fd, F, He.glo_ok X G (c.fact 5 (f := .glo "_law_dice") rfl)⟩
theorem is__law_off (X : K.In h) (G : h.Ns mainGlobals mg) (c : He.SaysD hfa hfn K) : IsDef K mg "_law_off" s__law_off := by
  obtain ⟨fd, F⟩ := c.def_ 6 (d := d__law_off) rfl
  exact ⟨_, fd, F, He.glo_ok X G (c.fact 6 (f := .glo "_law_off") rfl)⟩
theorem is__law_alike (X : K.In h) (G : h.Ns mainGlobals mg) (c : He.SaysD hfa hfn K) : IsDef K mg "_law_alike" s__law_alike := by
  obtain ⟨fd, F⟩ := c.def_ 7 (d := d__law_alike) rfl
  exact ⟨_, fd, F, He.glo_ok X G (c.fact 7 (f := .glo "_law_alike") rfl)⟩
theorem is__law_pairs (X : K.In h) (G : h.Ns mainGlobals mg) (c : He.SaysD hfa hfn K) : IsDef K mg "_law_pairs" s__law_pairs := by
  obtain ⟨fd, F⟩ := c.def_ 8 (d := d__law_pairs) rfl
  exact ⟨_, fd, F, He.glo_ok X G (c.fact 8 (f := .glo "_law_pairs") rfl)⟩
theorem is__law_mixed (X : K.In h) (G : h.Ns mainGlobals mg) (c : He.SaysD hfa hfn K) : IsDef K mg "_law_mixed" s__law_mixed := by
  obtain ⟨fd, F⟩ := c.def_ 9 (d := d__law_mixed) rfl
  exact ⟨_, fd, F, He.glo_ok X G (c.fact 9 (f := .glo "_law_mixed") rfl)⟩
theorem is__law_yard (X : K.In h) (G : h.Ns mainGlobals mg) (c : He.SaysD hfa hfn K) : IsDef K mg "_law_yard" s__law_yard := by
  obtain ⟨fd, F⟩ := c.def_ 10 (d := d__law_yard) rfl
  exact ⟨_, fd, F, He.glo_ok X G (c.fact 10 (f := .glo "_law_yard") rfl)⟩
theorem is__law_is (X : K.In h) (G : h.Ns mainGlobals mg) (c : He.SaysD hfa hfn K) : IsDef K mg "_law_is" s__law_is := by
  obtain ⟨fd, F⟩ := c.def_ 11 (d := d__law_is) rfl
  exact ⟨_, fd, F, He.glo_ok X G (c.fact 11 (f := .glo "_law_is") rfl)⟩
theorem is__law_text (X : K.In h) (G : h.Ns mainGlobals mg) (c : He.SaysD hfa hfn K) : IsDef K mg "_law_text" s__law_text := by
  obtain ⟨fd, F⟩ := c.def_ 12 (d := d__law_text) rfl
  exact ⟨_, fd, F, He.glo_ok X G (c.fact 12 (f := .glo "_law_text") rfl)⟩
theorem is__law_refused (X : K.In h) (G : h.Ns mainGlobals mg) (c : He.SaysD hfa hfn K) : IsDef K mg "_law_refused" s__law_refused := by
  obtain ⟨fd, F⟩ := c.def_ 13 (d := d__law_refused) rfl
  exact ⟨_, fd, F, He.glo_ok X G (c.fact 13 (f := .glo "_law_refused") rfl)⟩
theorem is_law (X : K.In h) (G : h.Ns mainGlobals mg) (c : He.SaysD hfa hfn K) : IsDef K mg "law" s_law := by
  obtain ⟨fd, F⟩ := c.def_ 14 (d := d_law) rfl
  exact ⟨_, fd, F, He.glo_ok X G (c.fact 14 (f := .glo "law") rfl)⟩
theorem isc_is_number (X : K.In h) (G : h.Ns mainGlobals mg) (c : He.SaysD hfa hfn K) : IsDefC K mg "is_number" s_is_number (He.codeOf K ("is_number", none)) := by
  obtain ⟨fd, F⟩ := c.def_ 2 (d := d_is_number) rfl
  refine ⟨_, fd, F, He.glo_ok X G (c.fact 2 (f := .glo "is_number") rfl), ?_⟩
  obtain ⟨oc, od, dV, kV, doc, pm, an, cdv, ct, osl, e1, lk, hcd, _, _⟩ := F.ex
  obtain ⟨c1, e2⟩ := He.codeIn_ref hcd
  subst e2
  rw [He.codeOf_eq (p := ("is_number", none)) lk (by rw [e1])]
  rw [e1]
theorem isc_numbers_of (X : K.In h) (G : h.Ns mainGlobals mg) (c : He.SaysD hfa hfn K) : IsDefC K mg "numbers_of" s_numbers_of (He.codeOf K ("numbers_of", none)) := by
  obtain ⟨fd, F⟩ := c.def_ 3 (d := d_numbers_of) rfl
  refine ⟨_, fd, F, He.glo_ok X G (c.fact 3 (f := .glo "numbers_of") rfl), ?_⟩
  obtain ⟨oc, od, dV, kV, doc, pm, an, cdv, ct, osl, e1, lk, hcd, _, _⟩ := F.ex
  obtain ⟨c1, e2⟩ := He.codeIn_ref hcd
  subst e2
  rw [He.codeOf_eq (p := ("numbers_of", none)) lk (by rw [e1])]
  rw [e1]
theorem im_init (c : He.SaysD hfa hfn K) : IsMeth K (He.ga K "Yard") "__init__" "Yard.__init__" s_Yard_init := by
  obtain ⟨fd, F⟩ := c.def_ 15 (d := dm_init) rfl
  have M := He.mkr_ok (c.fact 43 (f := .mkr "Yard") rfl)
  exact ⟨_, fd, F, ⟨M.init, M.fn, F.kp⟩⟩
theorem im_many (c : He.SaysD hfa hfn K) : IsMeth K (He.ga K "Yard") "many" "Yard.many" s_Yard_many := by
  obtain ⟨fd, F⟩ := c.def_ 16 (d := dm_many) rfl
  exact ⟨_, fd, F, He.meth_ok (c.fact 39 (f := .meth "Yard" "many") rfl)⟩
theorem im_ties (c : He.SaysD hfa hfn K) : IsMeth K (He.ga K "Yard") "ties" "Yard.ties" s_Yard_ties := by
  obtain ⟨fd, F⟩ := c.def_ 17 (d := dm_ties) rfl
  exact ⟨_, fd, F, He.meth_ok (c.fact 40 (f := .meth "Yard" "ties") rfl)⟩
theorem im_is_tied (c : He.SaysD hfa hfn K) : IsMeth K (He.ga K "Yard") "is_tied" "Yard.is_tied" s_Yard_is_tied := by
  obtain ⟨fd, F⟩ := c.def_ 18 (d := dm_is_tied) rfl
  exact ⟨_, fd, F, He.meth_ok (c.fact 41 (f := .meth "Yard" "is_tied") rfl)⟩
theorem im_degree (c : He.SaysD hfa hfn K) : IsMeth K (He.ga K "Yard") "degree" "Yard.degree" s_Yard_degree := by
  obtain ⟨fd, F⟩ := c.def_ 19 (d := dm_degree) rfl
  exact ⟨_, fd, F, He.meth_ok (c.fact 42 (f := .meth "Yard" "degree") rfl)⟩
theorem h_mk (c : He.SaysD hfa hfn K) : Mk K (He.ga K "Yard") (He.ma K (He.ga K "Yard") "__init__") := He.mkr_ok (c.fact 43 (f := .mkr "Yard") rfl)
theorem h_txt (X : K.In h) (G : h.Ns mainGlobals mg) (c : He.SaysD hfa hfn K) : YTxt K mg (He.ga K "Yard") := ⟨He.cls_ok (c.fact 34 (f := .cls "Yard") rfl), He.noat_ok (c.fact 35 (f := .noat "Yard" "_many") rfl), He.noat_ok (c.fact 36 (f := .noat "Yard" "_ties") rfl), He.noat_ok (c.fact 37 (f := .noat "Yard" "_tied") rfl), He.noat_ok (c.fact 38 (f := .noat "Yard" "_degrees") rfl), He.glo_ok X G (c.fact 33 (f := .glo "Yard") rfl)⟩
theorem ix_BadYard (c : He.SaysD hfa hfn K) : IsMeth K (He.ga K "BadYard") "__init__" "BadYard.__init__" s_BadYard_init := by
  obtain ⟨fd, F⟩ := c.def_ 20 (d := dx_BadYard) rfl
  exact ⟨_, fd, F, He.meth_ok (c.fact 44 (f := .meth "BadYard" "__init__") rfl)⟩
theorem ix_BadText (c : He.SaysD hfa hfn K) : IsMeth K (He.ga K "BadText") "__init__" "BadText.__init__" s_BadText_init := by
  obtain ⟨fd, F⟩ := c.def_ 21 (d := dx_BadText) rfl
  exact ⟨_, fd, F, He.meth_ok (c.fact 45 (f := .meth "BadText" "__init__") rfl)⟩
theorem h_blt (X : K.In h) (G : h.Ns mainGlobals mg) (c : He.SaysD hfa hfn K) : Blt mg := ⟨He.free_ok X G (c.fact 15 (f := .free "abs") rfl), He.free_ok X G (c.fact 16 (f := .free "all") rfl), He.free_ok X G (c.fact 17 (f := .free "bool") rfl), He.free_ok X G (c.fact 18 (f := .free "dict") rfl), He.free_ok X G (c.fact 19 (f := .free "enumerate") rfl), He.free_ok X G (c.fact 20 (f := .free "int") rfl), He.free_ok X G (c.fact 21 (f := .free "isinstance") rfl), He.free_ok X G (c.fact 22 (f := .free "len") rfl), He.free_ok X G (c.fact 23 (f := .free "list") rfl), He.free_ok X G (c.fact 24 (f := .free "max") rfl), He.free_ok X G (c.fact 25 (f := .free "min") rfl), He.free_ok X G (c.fact 26 (f := .free "range") rfl), He.free_ok X G (c.fact 27 (f := .free "set") rfl), He.free_ok X G (c.fact 28 (f := .free "sorted") rfl), He.free_ok X G (c.fact 29 (f := .free "str") rfl), He.free_ok X G (c.fact 30 (f := .free "tuple") rfl), He.free_ok X G (c.fact 31 (f := .free "zip") rfl)⟩
theorem hi_MOST_PLACES (X : K.In h) (G : h.Ns mainGlobals mg) (c : He.SaysD hfa hfn K) : ∃ t, mg "MOST_PLACES" = some (.int 30 t) := He.int_ok X G (c.fact 32 (f := .int "MOST_PLACES" 30) rfl)
theorem hx_str_FIGURES_0123456789 (c : He.SaysD hfa hfn K) : ((.str "FIGURES" "0123456789") : He.Fa).ok K = true := c.fact 46 (f := .str "FIGURES" "0123456789") rfl
theorem hx_glo_BadYard (c : He.SaysD hfa hfn K) : ((.glo "BadYard") : He.Fa).ok K = true := c.fact 47 (f := .glo "BadYard") rfl
theorem hx_glo_BadOrder (c : He.SaysD hfa hfn K) : ((.glo "BadOrder") : He.Fa).ok K = true := c.fact 48 (f := .glo "BadOrder") rfl
theorem hx_glo_TooMany (c : He.SaysD hfa hfn K) : ((.glo "TooMany") : He.Fa).ok K = true := c.fact 49 (f := .glo "TooMany") rfl
theorem hx_glo_BadText (c : He.SaysD hfa hfn K) : ((.glo "BadText") : He.Fa).ok K = true := c.fact 50 (f := .glo "BadText") rfl
theorem hx_glo_YardError (c : He.SaysD hfa hfn K) : ((.glo "YardError") : He.Fa).ok K = true := c.fact 51 (f := .glo "YardError") rfl
theorem hx_free_ValueError (c : He.SaysD hfa hfn K) : ((.free "ValueError") : He.Fa).ok K = true := c.fact 52 (f := .free "ValueError") rfl
theorem hx_noat_BadYard_at (c : He.SaysD hfa hfn K) : ((.noat "BadYard" "at") : He.Fa).ok K = true := c.fact 53 (f := .noat "BadYard" "at") rfl
theorem hx_noat_BadYard_why (c : He.SaysD hfa hfn K) : ((.noat "BadYard" "why") : He.Fa).ok K = true := c.fact 54 (f := .noat "BadYard" "why") rfl
theorem hx_exm_BadYard_YardError_true (c : He.SaysD hfa hfn K) : ((.exm "BadYard" "YardError" true) : He.Fa).ok K = true := c.fact 55 (f := .exm "BadYard" "YardError" true) rfl
theorem hx_noat_BadText_row (c : He.SaysD hfa hfn K) : ((.noat "BadText" "row") : He.Fa).ok K = true := c.fact 56 (f := .noat "BadText" "row") rfl
theorem hx_exm_BadText_YardError_true (c : He.SaysD hfa hfn K) : ((.exm "BadText" "YardError" true) : He.Fa).ok K = true := c.fact 57 (f := .exm "BadText" "YardError" true) rfl
end

section
variable {P : Program} {w : World} {K : PySem.W.Frag} {h base : Heap} {mg : Str → Option Value}
theorem ok_law {f : Addr} {fd : FuncData} (F : FunD K "law" "law" (defArgs s_law) (defBody s_law) (defScope s_law) [] [] f fd) (TB_is_number : GxR.TabB base mg (He.codeOf K ("is_number", none)) (He.tabOf K (He.codeOf K ("is_number", none)))) (TB_numbers_of : GxR.TabB base mg (He.codeOf K ("numbers_of", none)) (He.tabOf K (He.codeOf K ("numbers_of", none)))) (X : K.In h) (G : h.Ns mainGlobals mg) (c : He.SaysD hfa hfn K) (cx : hex K = true) : FnOk P w K mg base CX0 8 f fd ["_law_script"] (spLawT2 K (He.tabOf K (He.codeOf K ("is_number", none))) (He.tabOf K (He.codeOf K ("numbers_of", none)))) := by
  have B := h_blt X G c
  have T := h_txt X G c
  have M := h_mk c
  obtain ⟨t, gM⟩ := hi_MOST_PLACES X G c
  have DI : Has P w K mg base 1 "_law_dice" ["_law_script", "_law_k"] (spDice K) := has_dice (is__law_dice X G c) B
  have O : Has P w K mg base 1 "_law_off" ["_law_d", "_law_most"] spOff := has_off (is__law_off X G c) B
  have PR : Has P w K mg base 1 "_law_pairs" ["_law_many"] spPairs := has_pairs (is__law_pairs X G c) B
  have MX : Has P w K mg base 2 "_law_mixed" ["_law_d", "_law_row"] (spMixed K) := has_mixed (is__law_mixed X G c) B O
  have YA : Has P w K mg base 3 "_law_yard" ["_law_d", "_law_least", "_law_most"] spYard := has_yard (is__law_yard X G c) B O PR MX
  have LX := has_ltext (P := P) (w := w) (base := base) (is__law_text X G c) B
  obtain ⟨tF, gF⟩ := He.str_ok X G (hx_str_FIGURES_0123456789 c)
  have NI := has_isnum (P := P) (w := w) (isc_is_number X G c) TB_is_number B gF
  obtain ⟨c0, cx⟩ := Bool.and_eq_true_iff.mp cx
  have ne := of_decide_eq_true c0
  obtain ⟨ca, cb⟩ := Bool.and_eq_true_iff.mp cx
  simp only [Bool.and_eq_true] at ca
  obtain ⟨⟨w1, w2, w3⟩, w4, w5⟩ := ca
  have gB := He.glo_ok X G (hx_glo_BadYard c)
  have gE := He.glo_ok X G (hx_glo_YardError c)
  have gT := He.glo_ok X G (hx_glo_BadText c)
  have b : BadX K mg (He.ga K "BadYard") (He.ga K "YardError") := ⟨hbad_ok w1, gB, He.noat_ok (hx_noat_BadYard_at c), He.noat_ok (hx_noat_BadYard_why c), hbase_ok w2, gE⟩
  have bT : TxtX K mg (He.ga K "BadText") (He.ga K "YardError") := ⟨hbad_ok w4, gT, He.noat_ok (hx_noat_BadText_row c), hbase_ok w2, gE⟩
  have BI := has_badinit (P := P) (w := w) (base := base) (ix_BadYard c) b
  have BIT := has_txtinit (P := P) (w := w) (base := base) (ix_BadText c) bT
  have CB := has_checkB (P := P) (w := w) (base := base) (is_check_yard X G c) B gM b BI
  have INB := has_initB (P := P) (w := w) (base := base) (im_init c) CB
  have IS : HasX P w K mg base 1 "_law_is" ["_law_e", "_law_word"] (spIsD K mg) := hasX_isD (is__law_is X G c) B
  have ALH : HasH P w K mg base 3 "_law_alike" ["_law_found", "_law_due"] (spAlike 2) := alikeH_all (is__law_alike X G c) B 2
  have xmB := He.exm_ok (hx_exm_BadYard_YardError_true c)
  have xmT := He.exm_ok (hx_exm_BadText_YardError_true c)
  obtain ⟨cy, ct⟩ := Bool.and_eq_true_iff.mp cb
  unfold hkits at cy ct
  simp only [Bool.and_eq_true] at cy ct
  obtain ⟨y1, y2, y3, y4, y5, y6⟩ := cy
  obtain ⟨z1, z2, z3, z4, z5, z6⟩ := ct
  have gO := He.glo_ok X G (hx_glo_BadOrder c)
  have gM2 := He.glo_ok X G (hx_glo_TooMany c)
  have icB : IsC K mg (He.ga K "BadYard") [true, false, false, false] := ⟨hexc_ok y1, He.free_ok X G (hx_free_ValueError c), of_decide_eq_true y2, _, _, _, _, _, _, _, _, gB, gO, gM2, gT, of_decide_eq_true y3, of_decide_eq_true y4, of_decide_eq_true y5, of_decide_eq_true y6, rfl⟩
  have icT : IsC K mg (He.ga K "BadText") [false, false, false, true] := ⟨hexc_ok z1, He.free_ok X G (hx_free_ValueError c), of_decide_eq_true z2, _, _, _, _, _, _, _, _, gB, gO, gM2, gT, of_decide_eq_true z3, of_decide_eq_true z4, of_decide_eq_true z5, of_decide_eq_true z6, rfl⟩
  have NU := has_numsE (P := P) (w := w) (isc_numbers_of X G c) TB_numbers_of B NI bT BIT
  have RD := has_readE (is_read X G c) B T INB M.makes M.kp NU
  have RF := has_ref18 (is__law_refused X G c) RD IS icB icT ALH (xfB_ok w3) b.at_ b.why (xfB_ok w5) bT.row gE xmB xmT
  exact ok_lawK18 F B ne DI O YA LX RF
theorem hfacts {f : Addr} (X : K.In h) (G : h.Ns mainGlobals mg) (hf : mg ("law" : Str) = some (.ref f)) (c : He.SaysX hfa hfn [] [("is_number", none), ("numbers_of", none)] hex w h K) : ∃ l : LamX.LawAtS PySem.Challenge.rw_denseround_k18_texts_refused w K CX0 8 63 "_law_script" mg f h, True := by
  obtain ⟨fd, F⟩ := c.t.d.def_ 14 (d := d_law) rfl
  have e := hf.symm.trans (He.glo_ok X G (c.t.d.fact 14 (f := .glo "law") rfl))
  cases e
  have b := FunD.bindsA (ps := ["_law_script"]) F fun _ _ _ _ _ _ us hl => match us, hl with | [_], _ => rfl
  have at_ : ∀ p ∈ [He.cT K ("is_number", none), He.cT K ("numbers_of", none)], ∃ n, n ∈ ([("is_number", none), ("numbers_of", none)] : List He.Defn) ∧ p = He.cT K n := fun p hp => by
    simp only [List.mem_cons, List.not_mem_nil, or_false] at hp
    rcases hp with z | z
    · exact ⟨_, List.mem_cons_self, z⟩
    · exact ⟨_, List.mem_cons_of_mem _ List.mem_cons_self, z⟩
  refine ⟨⟨fd, [He.cT K ("is_number", none), He.cT K ("numbers_of", none)], (spLawT2 K (He.tabOf K (He.codeOf K ("is_number", none))) (He.tabOf K (He.codeOf K ("numbers_of", none)))), fun p hp => ?_, fun p hp => ?_, fun p hp => ?_, fun s v => b s [v] rfl, fun H a ns hl _ hT hS => ⟨a, ns, rfl, hl, hS, hT _ List.mem_cons_self, hT _ (List.mem_cons_of_mem _ List.mem_cons_self), fun _ => rfl⟩,
    fun base _ _ TB => ok_law F ⟨(TB _ List.mem_cons_self).1, (TB _ List.mem_cons_self).2, (TB _ List.mem_cons_self).3⟩ ⟨(TB _ (List.mem_cons_of_mem _ List.mem_cons_self)).1, (TB _ (List.mem_cons_of_mem _ List.mem_cons_self)).2, (TB _ (List.mem_cons_of_mem _ List.mem_cons_self)).3⟩ X G c.t.d c.more⟩, trivial⟩
  · obtain ⟨n, h1, rfl⟩ := at_ p hp
    exact c.empty _ h1
  · obtain ⟨n, h1, rfl⟩ := at_ p hp
    exact c.out _ h1
  · obtain ⟨n, h1, rfl⟩ := at_ p hp
    exact PySem.W.codeHd_of_K X (c.hd _ h1)
end
end DR
open PySem PySem.W PySem.Calls PyProof.Rows
theorem PySem.Challenge.cw_denseround_k18_texts_refused_holds : PySem.Challenge.rw_denseround_k18_texts_refused.Holds := by
  w_on; o_law
  refine HandSHeadRun.head_any (r := OpenLaw.row PySem.Challenge.rw_denseround_k18_texts_refused) (q := view (OpenLaw.row PySem.Challenge.rw_denseround_k18_texts_refused).prog [26]) (H := DR.hk) (ob := DR.hob) (M := 4000) (loose := DR.hloose) (d := HandSHeadRun.topDef (OpenLaw.row PySem.Challenge.rw_denseround_k18_texts_refused).prog 26) (kwd := []) DR.hob_eq
    (by kernel_rfl) (fun s => by kernel_rfl) DR.hrun (by kernel_rfl) (by kernel_rfl) (by kernel_rfl) (by rfl) (by first | assumption | decide +kernel) (by decide +kernel) ⟨rfl, rfl, rfl, rfl, rfl, by decide +kernel⟩ ?hw ?hc
  case hw => w_witness2
  case hc =>
    refine LamX.walk_ofTsE (l := PySem.Challenge.rw_denseround_k18_texts_refused) (n := 63) (k := 8) (x := "_law_script") (CX := fun _ => L2.CX0) rfl (by decide) (by kernel_rfl) ⟨rfl, by decide, by decide⟩ ?F (fun _ _ _ _ _ z => z)
    intro w mg fa h Y G hmg0
    obtain ⟨K, KX, c⟩ := Y
    have hmg : mg ("law" : PySem.Str) = some (.ref fa) := by
      have e : (HandSHeadRun.topDef (OpenLaw.row PySem.Challenge.rw_denseround_k18_texts_refused).prog 26).name = ("law" : PySem.Str) := by kernel_rfl
      rw [← e]
      exact hmg0
    obtain ⟨r, _⟩ := DR.hfacts KX G hmg c
    exact ⟨K, KX, r⟩
