import PyProof.Rows.All
import Wide.All
import OpenK.AllK
import Wide.FinOn
import Lean
import PyProof.EqAt
import PyProof.EqKinds
import PyProof.TupleCall
import PyProof.SetScanFacts
import PyProof.IsiH_list
import PyProof.RaisesAny
import KE.KDictOf
import PyProof.CollectWalk
import PyProof.CompFree
import KE.KDictList
import PyProof.NeKinds
import PyProof.ConsumeWalk
import PyProof.StrBlockI
import PyProof.EnumFor
import PyProof.TupleIter
import PyProof.EnumMake
import PyProof.DictUpdate
import PyProof.SeqI3
import PyProof.DictWalks
import PyProof.ConsumeS
import PyProof.Rows.CallKwBuiltin
import PyProof.AutoListH
import PyProof.ZipIter
import PyProof.ListNew
import KE.KRevSl
import PyProof.StrOps
import PyProof.StrOps2
import PyProof.Rows.SetFrom
import KE.KLam
import KE.KNestM
import KE.KSortKey
import KE.KDictLaws
import PyProof.DictItemsLoops
import KE.KPairComp
import PyProof.StrCalls2
import PyProof.StrLawsTight
import PyProof.StrLawsChain
import PyProof.Rows.StrItems
import PyProof.StrCalls
import PyProof.Rows.StrPins
import PySem.Challenge.RW_wright_k46_clashes
set_option Elab.async false
set_option linter.all false
set_option maxRecDepth 100000
set_option maxHeartbeats 4000000
namespace ST
open PySem
abbrev Pb := SetTable.Probe
def runSt (m : Nat) (x : Nat × Nat) : Pb := { j := x.1, more := SetTable.runEnd m x.1 - x.1, i := x.1, perturb := x.2, dummy := none }
def adv (m : Nat) (p : Pb) : Pb :=
  if p.more > 0 then { p with j := p.j + 1, more := p.more - 1 } else
  { runSt m (SetTable.leap m p.i p.perturb) with dummy := p.dummy }
def nth (m : Nat) (h : Int) : Nat → Pb
  | 0 => runSt m (SetTable.bits h % (m + 1), SetTable.bits h)
  | n + 1 => adv m (nth m h n)
abbrev J (m : Nat) (h : Int) (n : Nat) : Nat := (nth m h n).j
theorem adv_dummy (m : Nat) (p : Pb) : (adv m p).dummy = p.dummy := by
  unfold adv; split <;> rfl
theorem nth_dummy (m : Nat) (h : Int) : ∀ n, (nth m h n).dummy = none
  | 0 => rfl
  | n + 1 => (adv_dummy _ _).trans (nth_dummy m h n)
def rs (m : Nat) (h : Int) : Nat → Nat × Nat
  | 0 => (SetTable.bits h % (m + 1), SetTable.bits h)
  | r + 1 => SetTable.leap m (rs m h r).1 (rs m h r).2
abbrev mo (m i : Nat) : Nat := SetTable.runEnd m i - i
theorem mo_le (m i : Nat) : mo m i ≤ 9 := by unfold mo SetTable.runEnd; split <;> omega
def ix (m : Nat) (h : Int) : Nat → Nat
  | 0 => 0
  | r + 1 => ix m h r + mo m (rs m h r).1 + 1
theorem ix_le (m : Nat) (h : Int) : ∀ r, ix m h r ≤ 10 * r
  | 0 => Nat.le_refl _
  | r + 1 => by
    have := ix_le m h r
    have := mo_le m (rs m h r).1
    show ix m h r + mo m (rs m h r).1 + 1 ≤ _
    omega
theorem nth_run {m : Nat} {h : Int} {n : Nat} {x : Nat × Nat} (e : nth m h n = runSt m x) : ∀ k, k ≤ mo m x.1 → nth m h (n + k) = { runSt m x with j := x.1 + k, more := mo m x.1 - k }
  | 0, _ => e
  | k + 1, hk => by
    show adv m (nth m h (n + k)) = _
    rw [nth_run e k (by omega)]
    unfold adv
    rw [if_pos (show mo m x.1 - k > 0 by omega)]
    show ({ j := x.1 + k + 1, more := mo m x.1 - k - 1, i := x.1, perturb := x.2, dummy := none } : Pb) = { j := x.1 + (k + 1), more := mo m x.1 - (k + 1), i := x.1, perturb := x.2, dummy := none }
    rw [Nat.sub_sub, Nat.add_assoc]
theorem nth_next {m : Nat} {h : Int} {n : Nat} {x : Nat × Nat} (e : nth m h n = runSt m x) : nth m h (n + mo m x.1 + 1) = runSt m (SetTable.leap m x.1 x.2) := by
  show adv m (nth m h (n + mo m x.1)) = _
  rw [nth_run e _ (Nat.le_refl _)]
  unfold adv
  rw [if_neg (show ¬ (mo m x.1 - mo m x.1 > 0) by omega)]
  rfl
theorem nth_ix (m : Nat) (h : Int) : ∀ r, nth m h (ix m h r) = runSt m (rs m h r)
  | 0 => rfl
  | r + 1 => nth_next (nth_ix m h r)
theorem J_ix (m : Nat) (h : Int) (r : Nat) : J m h (ix m h r) = (rs m h r).1 := by unfold J; rw [nth_ix]; rfl
theorem rs_pert (m : Nat) (h : Int) : ∀ r, (rs m h r).2 = SetTable.bits h / 32 ^ r
  | 0 => by simp [rs]
  | r + 1 => by
    show (rs m h r).2 / 32 = _
    rw [rs_pert m h r, Nat.div_div_eq_div_mul, Nat.pow_succ]
theorem bits_lt (h : Int) : SetTable.bits h < 2 ^ 64 := by
  unfold SetTable.bits
  have h1 := Int.emod_lt_of_pos h (show (0 : Int) < 2 ^ 64 by decide)
  have h2 := Int.emod_nonneg h (show (2 ^ 64 : Int) ≠ 0 by decide)
  omega
theorem rs_zero (m : Nat) (h : Int) (r : Nat) : (rs m h (13 + r)).2 = 0 := by
  rw [rs_pert]
  refine Nat.div_eq_of_lt (Nat.lt_of_lt_of_le (bits_lt h) ?_)
  rw [Nat.pow_add]
  exact Nat.le_trans (by decide : 2 ^ 64 ≤ 32 ^ 13) (Nat.le_mul_of_pos_right _ (Nat.pow_pos (by decide)))
def f5 (M i : Nat) : Nat := (i * 5 + 1) % M
def it5 (M : Nat) : Nat → Nat → Nat
  | 0, i => i
  | n + 1, i => it5 M n (f5 M i)
theorem it5_add (M : Nat) : ∀ a b i, it5 M (a + b) i = it5 M b (it5 M a i)
  | 0, b, i => by rw [Nat.zero_add]; rfl
  | a + 1, b, i => by rw [show a + 1 + b = (a + b) + 1 by omega]; exact it5_add M a b _
def cyc (M : Nat) : Nat → Nat → List Nat
  | 0, _ => []
  | n + 1, i => i :: cyc M n (f5 M i)
theorem cyc_mem (M : Nat) : ∀ n i j, j ∈ cyc M n i → ∃ r, r < n ∧ it5 M r i = j
  | 0, i, j, h => by cases h
  | n + 1, i, j, h => by
    rcases List.mem_cons.mp h with e | e
    · exact ⟨0, Nat.succ_pos _, e.symm⟩
    · obtain ⟨r, h1, h2⟩ := cyc_mem M n _ j e
      exact ⟨r + 1, Nat.succ_lt_succ h1, h2⟩
def cycOk (M : Nat) : Bool := (List.range M).all (fun j => (cyc M M 0).contains j) && it5 M M 0 == 0
theorem cov5 {M : Nat} (k : cycOk M = true) {i j : Nat} (hi : i < M) (hj : j < M) : ∃ r, r < M ∧ it5 M r i = j := by
  unfold cycOk at k
  rw [Bool.and_eq_true, List.all_eq_true, beq_iff_eq] at k
  obtain ⟨k1, k2⟩ := k
  have get : ∀ j, j < M → ∃ r, r < M ∧ it5 M r 0 = j := fun j hj => cyc_mem M M 0 j (by simpa using k1 j (List.mem_range.mpr hj))
  obtain ⟨a, ha, rfl⟩ := get i hi
  obtain ⟨b, hb, rfl⟩ := get j hj
  by_cases h : a ≤ b
  · exact ⟨b - a, by omega, by rw [← it5_add, Nat.add_sub_cancel' h]⟩
  · refine ⟨M - a + b, by omega, ?_⟩
    rw [← it5_add, show a + (M - a + b) = M + b by omega, it5_add, k2]
theorem rs_lt (m : Nat) (h : Int) : ∀ r, (rs m h r).1 < m + 1
  | 0 => Nat.mod_lt _ (Nat.succ_pos _)
  | r + 1 => Nat.mod_lt _ (Nat.succ_pos _)
theorem rs_it (m : Nat) (h : Int) : ∀ r, (rs m h (13 + r)).1 = it5 (m + 1) r (rs m h 13).1
  | 0 => rfl
  | r + 1 => by
    have e : it5 (m + 1) (r + 1) (rs m h 13).1 = f5 (m + 1) (it5 (m + 1) r (rs m h 13).1) := it5_add (m + 1) r 1 _
    rw [e, ← rs_it m h r]
    show ((rs m h (13 + r)).1 * 5 + 1 + (rs m h (13 + r)).2 / 32) % (m + 1) = _
    rw [rs_zero]
    rfl
theorem rs_cov {m : Nat} (k : cycOk (m + 1) = true) (h : Int) {j : Nat} (hj : j ≤ m) : ∃ r, r < m + 14 ∧ (rs m h r).1 = j := by
  obtain ⟨r, h1, h2⟩ := cov5 k (rs_lt m h 13) (show j < m + 1 by omega)
  exact ⟨13 + r, by omega, by rw [rs_it, h2]⟩
theorem cyc8 : cycOk 8 = true := by decide +kernel
theorem cyc32 : cycOk 32 = true := by decide +kernel
theorem cyc128 : cycOk 128 = true := by decide +kernel
theorem first_free {m : Nat} (k : cycOk (m + 1) = true) (h : Int) {tk : List Nat} (hl : tk.length ≤ m) : ∃ n, (∃ r, r < m + 14 ∧ n ≤ ix m h r) ∧ J m h n ∉ tk ∧ ∀ l, l < n → J m h l ∈ tk := by
  have ex : ∃ j, j ≤ m ∧ j ∉ tk := by
    apply Classical.byContradiction
    intro no
    have all : ∀ j ∈ List.range (m + 1), j ∈ tk := fun j hj => Classical.byContradiction fun z => no ⟨j, by have := List.mem_range.mp hj; omega, z⟩
    have := List.Nodup.length_le_of_subset (List.nodup_range (n := m + 1)) all
    rw [List.length_range] at this
    omega
  obtain ⟨j, hj, nj⟩ := ex
  obtain ⟨r, hr, e⟩ := rs_cov k h hj
  have P : J m h (ix m h r) ∉ tk := by rw [J_ix, e]; exact nj
  have bd := ix_le m h r
  have least : ∀ N, J m h N ∉ tk → ∃ n, n ≤ N ∧ J m h n ∉ tk ∧ ∀ l, l < n → J m h l ∈ tk := by
    intro N
    induction N using Nat.strongRecOn with
    | ind N ih =>
      intro hN
      by_cases z : ∃ l, l < N ∧ J m h l ∉ tk
      · obtain ⟨l, h1, h2⟩ := z
        obtain ⟨n, a, b, c⟩ := ih l h1 h2
        exact ⟨n, by omega, b, c⟩
      · exact ⟨N, Nat.le_refl _, hN, fun l hl => Classical.byContradiction fun q => z ⟨l, hl, q⟩⟩
  obtain ⟨n, a, b, c⟩ := least _ P
  exact ⟨n, ⟨r, hr, a⟩, b, c⟩
end ST
namespace ST
open PySem
theorem rise_lt {xs : Array Nat} (R : xs.toList.Pairwise (· < ·)) {i j : Nat} (hj : j < xs.size) (h : i < j) : xs[i]'(by omega) < xs[j] := by
  have := List.pairwise_iff_getElem.mp R i j (by simpa using (by omega : i < xs.size)) (by simpa using hj) h
  simpa using this
theorem below_go {xs : Array Nat} (R : xs.toList.Pairwise (· < ·)) (j : Nat) : ∀ fuel lo hi, lo ≤ hi → hi ≤ xs.size → hi - lo ≤ fuel → (∀ i (h : i < xs.size), i < lo → xs[i] < j) → (∀ i (h : i < xs.size), hi ≤ i → j ≤ xs[i]) →
    SetTable.below.go xs j fuel lo hi ≤ xs.size ∧ (∀ i (h : i < xs.size), i < SetTable.below.go xs j fuel lo hi → xs[i] < j) ∧ ∀ i (h : i < xs.size), SetTable.below.go xs j fuel lo hi ≤ i → j ≤ xs[i]
  | 0, lo, hi, h1, h2, h3, a, b => by
    have : lo = hi := by omega
    subst this
    exact ⟨h2, a, b⟩
  | fuel + 1, lo, hi, h1, h2, h3, a, b => by
    unfold SetTable.below.go
    by_cases h : lo < hi
    · rw [if_pos h]
      have hm : (lo + hi) / 2 < xs.size := by omega
      have eg : xs.getD ((lo + hi) / 2) j = xs[(lo + hi) / 2] := by simp [Array.getD, hm]
      dsimp only
      rw [eg]
      by_cases c : xs[(lo + hi) / 2] < j
      · rw [if_pos c]
        refine below_go R j fuel _ hi (by omega) h2 (by omega) (fun i hi' hl => ?_) b
        by_cases e : i = (lo + hi) / 2
        · subst e; exact c
        · exact Nat.lt_trans (rise_lt R hm (by omega)) c
      · rw [if_neg c]
        refine below_go R j fuel lo _ (by omega) (by omega) (by omega) a (fun i hi' hl => ?_)
        by_cases e : i = (lo + hi) / 2
        · subst e; omega
        · have := rise_lt R hi' (show (lo + hi) / 2 < i by omega)
          omega
    · rw [if_neg h]
      have : lo = hi := by omega
      subst this
      exact ⟨h2, a, b⟩
theorem below_is {xs : Array Nat} (R : xs.toList.Pairwise (· < ·)) (j : Nat) : SetTable.below xs j ≤ xs.size ∧ (∀ i (h : i < xs.size), i < SetTable.below xs j → xs[i] < j) ∧ ∀ i (h : i < xs.size), SetTable.below xs j ≤ i → j ≤ xs[i] :=
  below_go R j xs.size 0 xs.size (Nat.zero_le _) (Nat.le_refl _) (by omega) (fun i _ h => absurd h (Nat.not_lt_zero _)) (fun i h1 h2 => absurd h1 (by omega))
theorem below_at {xs : Array Nat} (R : xs.toList.Pairwise (· < ·)) {i j : Nat} (e : xs[i]? = some j) : SetTable.below xs j = i := by
  obtain ⟨h0, h1, h2⟩ := below_is R j
  obtain ⟨hi, e2⟩ := Array.getElem?_eq_some_iff.mp e
  have a : SetTable.below xs j ≤ i := by
    apply Nat.le_of_not_lt
    intro z
    have := h1 i hi z
    omega
  rcases Nat.lt_or_eq_of_le a with z | z
  · have q := h2 (SetTable.below xs j) (by omega) (Nat.le_refl _)
    have := rise_lt R hi z
    omega
  · exact z
theorem slot_live {t : SetTable} (R : t.place.toList.Pairwise (· < ·)) {i j : Nat} (e : t.place[i]? = some j) : t.slot j = .live i := by
  unfold SetTable.slot
  rw [below_at R e]
  dsimp only
  rw [if_pos (by rw [e]; simp)]
theorem slot_empty {t : SetTable} (D : t.dummies = #[]) {j : Nat} (n : j ∉ t.place.toList) : t.slot j = .empty := by
  unfold SetTable.slot
  dsimp only
  rw [if_neg, if_neg]
  · unfold SetTable.has; rw [D]; simp
  · intro z
    rw [beq_iff_eq] at z
    exact n (by rw [Array.mem_toList_iff]; exact Array.mem_of_getElem? z)
theorem ins_rise {xs : Array Nat} (R : xs.toList.Pairwise (· < ·)) {j : Nat} (n : j ∉ xs.toList) : (SetTable.insertAt xs (SetTable.below xs j) j).toList.Pairwise (· < ·) := by
  rw [SetTable.toList_insertAt]
  obtain ⟨h0, h1, h2⟩ := below_is R j
  have R' := R
  rw [← List.take_append_drop (SetTable.below xs j) xs.toList] at R'
  obtain ⟨p1, p2, p3⟩ := List.pairwise_append.mp R'
  have lt : ∀ x ∈ xs.toList.take (SetTable.below xs j), x < j := fun x hx => by
    obtain ⟨i, hi, e⟩ := List.mem_iff_getElem.mp hx
    rw [List.length_take] at hi
    rw [List.getElem_take] at e
    have := h1 i (by simp at hi; omega) (by omega)
    rw [← e]
    simpa using this
  have gt : ∀ x ∈ xs.toList.drop (SetTable.below xs j), j < x := fun x hx => by
    have mx := List.mem_of_mem_drop hx
    obtain ⟨i, hi, e⟩ := List.mem_iff_getElem.mp hx
    rw [List.length_drop] at hi
    rw [List.getElem_drop] at e
    have hi' : SetTable.below xs j + i < xs.size := by rw [Array.length_toList] at hi; omega
    have q := h2 (SetTable.below xs j + i) hi' (Nat.le_add_right _ _)
    have e' : xs[SetTable.below xs j + i] = x := by rw [← e]; simp
    rw [e'] at q
    rcases Nat.lt_or_eq_of_le q with z | z
    · exact z
    · exact absurd (z ▸ mx) n
  refine List.pairwise_append.mpr ⟨p1, List.pairwise_cons.mpr ⟨gt, p2⟩, fun a ha b hb => ?_⟩
  rcases List.mem_cons.mp hb with e | e
  · rw [e]; exact lt a ha
  · exact p3 a ha b e
theorem zip_ins {α β : Type} {xs : List α} {ys : List β} (p : Nat) (x : α) (y : β) (hl : xs.length = ys.length) {q : α × β} (h : q ∈ (xs.take p ++ x :: xs.drop p).zip (ys.take p ++ y :: ys.drop p)) : q = (x, y) ∨ q ∈ xs.zip ys := by
  rw [List.zip_append (by simp [hl])] at h
  rcases List.mem_append.mp h with h | h
  · rw [List.zip_eq_zipWith, ← List.take_zipWith] at h
    exact .inr (List.mem_of_mem_take h)
  · rw [List.zip_cons_cons] at h
    rcases List.mem_cons.mp h with h | h
    · exact .inl h
    · rw [List.zip_eq_zipWith, ← List.drop_zipWith] at h
      exact .inr (List.mem_of_mem_drop h)
def Path (m : Nat) (tk : List Nat) (h : Int) (j : Nat) : Prop := ∃ n, n ≤ 10 * (m + 13) ∧ J m h n = j ∧ ∀ l, l < n → J m h l ∈ tk
theorem Path.more {m : Nat} {tk tk' : List Nat} {h : Int} {j : Nat} (p : Path m tk h j) (k : ∀ x ∈ tk, x ∈ tk') : Path m tk' h j := by
  obtain ⟨n, a, b, c⟩ := p
  exact ⟨n, a, b, fun l hl => k _ (c l hl)⟩
structure TOk (t : SetTable) (hs : List Int) : Prop where
  cyc : cycOk (t.mask + 1) = true
  dum : t.dummies = #[]
  rise : t.place.toList.Pairwise (· < ·)
  len : t.place.size = hs.length
  fill : t.place.size ≤ t.mask
  path : ∀ q ∈ t.place.toList.zip hs, Path t.mask t.place.toList q.2 q.1
theorem TOk.fits {t : SetTable} {hs : List Int} (T : TOk t hs) : t.fits hs.length = true := by
  unfold SetTable.fits SetTable.fill
  rw [T.len, T.dum]
  have := T.fill
  have := T.len
  simp
  omega
theorem put_ok {t : SetTable} {hs : List Int} (T : TOk t hs) {h : Int} {j : Nat} (nj : j ∉ t.place.toList) (hp : Path t.mask t.place.toList h j) (room : t.place.size < t.mask) :
    TOk (t.put j).1 (hs.take (t.put j).2 ++ h :: hs.drop (t.put j).2) := by
  have e1 : (t.put j).2 = SetTable.below t.place j := rfl
  have e2 : (t.put j).1.place = SetTable.insertAt t.place (SetTable.below t.place j) j := rfl
  have e3 : (t.put j).1.mask = t.mask := rfl
  have e4 : (t.put j).1.dummies = #[] := by
    show (if SetTable.has t.dummies j then _ else _) = _
    rw [T.dum]
    rfl
  have sub : ∀ x ∈ t.place.toList, x ∈ (t.put j).1.place.toList := fun x hx => by
    rw [e2, SetTable.toList_insertAt]
    rw [← List.take_append_drop (SetTable.below t.place j) t.place.toList] at hx
    rcases List.mem_append.mp hx with z | z
    · exact List.mem_append_left _ z
    · exact List.mem_append_right _ (List.mem_cons_of_mem _ z)
  have sz : (t.put j).1.place.size = t.place.size + 1 := by
    rw [e2, ← Array.length_toList, (SetTable.insertAt_perm _ _ _).length_eq]
    simp
  refine ⟨by rw [e3]; exact T.cyc, e4, by rw [e2]; exact ins_rise T.rise nj, ?_, by rw [sz, e3]; omega, fun q hq => ?_⟩
  · rw [sz, T.len, List.length_append, List.length_cons, List.length_take, List.length_drop]
    omega
  · rw [e2, SetTable.toList_insertAt, e1] at hq
    rw [e3]
    rcases zip_ins _ _ _ (by rw [Array.length_toList]; exact T.len) hq with z | z
    · rw [z]; exact hp.more sub
    · exact (T.path q z).more sub
end ST
namespace ST
open PySem
theorem ix_mono (m : Nat) (h : Int) {a : Nat} : ∀ {b}, a < b → ix m h a < ix m h b
  | 0, z => absurd z (Nat.not_lt_zero _)
  | b + 1, z => by
    have e : ix m h (b + 1) = ix m h b + mo m (rs m h b).1 + 1 := rfl
    rcases Nat.lt_or_eq_of_le (Nat.lt_succ_iff.mp z) with y | y
    · have := ix_mono m h y; omega
    · subst y; omega
abbrev own (ow : Array (Option Nat)) (j : Nat) : Option Nat := ow.getD j none
def lv (m : Nat) (ow : Array (Option Nat)) : List (Nat × Nat) := (List.range (m + 1)).filterMap fun j => (own ow j).map (j, ·)
theorem mem_lv {m : Nat} {ow : Array (Option Nat)} {q : Nat × Nat} : q ∈ lv m ow ↔ q.1 ≤ m ∧ own ow q.1 = some q.2 := by
  unfold lv
  rw [List.mem_filterMap]
  constructor
  · rintro ⟨j, hj, e⟩
    cases h : own ow j with
    | none => rw [h] at e; cases e
    | some i =>
      rw [h] at e
      cases e
      exact ⟨by have := List.mem_range.mp hj; show j ≤ m; omega, h⟩
  · rintro ⟨h1, h2⟩
    exact ⟨q.1, List.mem_range.mpr (by omega), by rw [h2]; rfl⟩
abbrev tk (m : Nat) (ow : Array (Option Nat)) : List Nat := (lv m ow).map (·.1)
theorem mem_tk {m : Nat} {ow : Array (Option Nat)} {j : Nat} : j ∈ tk m ow ↔ j ≤ m ∧ (own ow j).isSome = true := by
  rw [List.mem_map]
  constructor
  · rintro ⟨q, h, rfl⟩
    obtain ⟨a, b⟩ := mem_lv.mp h
    exact ⟨a, by rw [b]; rfl⟩
  · rintro ⟨a, b⟩
    obtain ⟨i, e⟩ := Option.isSome_iff_exists.mp b
    exact ⟨(j, i), mem_lv.mpr ⟨a, e⟩, rfl⟩
theorem tk_rise (m : Nat) (ow : Array (Option Nat)) : (tk m ow).Pairwise (· < ·) := by
  have key : ∀ l : List Nat, l.Pairwise (· < ·) → ((l.filterMap fun j => (own ow j).map (j, ·)).map (·.1)).Pairwise (· < ·) ∧ ∀ x ∈ (l.filterMap fun j => (own ow j).map (j, ·)).map (·.1), x ∈ l := by
    intro l
    induction l with
    | nil => exact fun _ => ⟨.nil, fun x h => by cases h⟩
    | cons j r ih =>
      intro p
      obtain ⟨p1, p2⟩ := List.pairwise_cons.mp p
      obtain ⟨i1, i2⟩ := ih p2
      rw [List.filterMap_cons]
      cases h : own ow j with
      | none => exact ⟨i1, fun x hx => List.mem_cons_of_mem _ (i2 x hx)⟩
      | some i =>
        refine ⟨List.pairwise_cons.mpr ⟨fun x hx => p1 x (i2 x hx), i1⟩, fun x hx => ?_⟩
        rcases List.mem_cons.mp hx with e | e
        · rw [e]; exact List.mem_cons_self
        · exact List.mem_cons_of_mem _ (i2 x e)
  exact (key _ List.pairwise_lt_range).1
theorem J_le (m : Nat) (h : Int) (n : Nat) : J m h n ≤ m ∧ (nth m h n).j + (nth m h n).more ≤ m := by
  have run : ∀ x : Nat × Nat, x.1 < m + 1 → (runSt m x).j ≤ m ∧ (runSt m x).j + (runSt m x).more ≤ m := fun x hx => by
    show x.1 ≤ m ∧ x.1 + mo m x.1 ≤ m
    unfold mo SetTable.runEnd
    split <;> omega
  induction n with
  | zero => exact run _ (Nat.mod_lt _ (Nat.succ_pos _))
  | succ n ih =>
    show (adv m (nth m h n)).j ≤ m ∧ (adv m (nth m h n)).j + (adv m (nth m h n)).more ≤ m
    unfold adv
    split
    · rename_i c
      show (nth m h n).j + 1 ≤ m ∧ (nth m h n).j + 1 + ((nth m h n).more - 1) ≤ m
      omega
    · exact run _ (Nat.mod_lt _ (Nat.succ_pos _))
theorem find_least {p : Nat → Bool} {n k : Nat} (hk : k < n) (pk : p k = true) (no : ∀ l, l < k → p l = false) : (List.range n).find? p = some k := by
  rw [List.find?_eq_some_iff_append]
  refine ⟨pk, List.range k, (List.range (n - (k + 1))).map (k + 1 + ·), ?_, fun a ha => by rw [no a (List.mem_range.mp ha)]; rfl⟩
  rw [show n = (k + 1) + (n - (k + 1)) by omega, List.range_add, List.range_succ]
  simp
theorem free_is {m : Nat} {h : Int} {ow : Array (Option Nat)} (sz : ow.size = m + 1) {N : Nat} (free : own ow (J m h N) = none) (tkn : ∀ l, l < N → (own ow (J m h l)).isSome = true) {R : Nat} (hN : N ≤ ix m h R) : ∀ fuel r, R < r + fuel → ix m h r ≤ N →
    SetTable.layClean.free m ow fuel (rs m h r).1 (rs m h r).2 = some (J m h N)
  | 0, r, h1, h2 => by
    have := ix_mono m h (show R < r by omega)
    omega
  | fuel + 1, r, h1, h2 => by
    unfold SetTable.layClean.free
    have bd : ∀ k, k ≤ mo m (rs m h r).1 → J m h (ix m h r + k) = (rs m h r).1 + k := fun k hk => by
      unfold J
      rw [nth_run (nth_ix m h r) k hk]
    have ge : ∀ k, k ≤ mo m (rs m h r).1 → ow.getD ((rs m h r).1 + k) (some 0) = own ow (J m h (ix m h r + k)) := fun k hk => by
      have l := (J_le m h (ix m h r + k)).1
      rw [bd k hk] at l ⊢
      unfold own Array.getD
      rw [dif_pos (by omega), dif_pos (by omega)]
    have re : SetTable.runEnd m (rs m h r).1 + 1 - (rs m h r).1 = mo m (rs m h r).1 + 1 := by
      unfold mo SetTable.runEnd
      split <;> omega
    by_cases c : N ≤ ix m h r + mo m (rs m h r).1
    · have f : (List.range (SetTable.runEnd m (rs m h r).1 + 1 - (rs m h r).1)).find? (fun k => (ow.getD ((rs m h r).1 + k) (some 0)).isNone) = some (N - ix m h r) := by
        refine find_least (by omega) ?_ fun l hl => ?_
        · rw [ge _ (by omega), show ix m h r + (N - ix m h r) = N by omega, free]
          rfl
        · rw [ge _ (by omega)]
          have := tkn (ix m h r + l) (by omega)
          revert this
          cases own ow (J m h (ix m h r + l)) <;> simp
      rw [f]
      dsimp only
      rw [← bd _ (by omega), show ix m h r + (N - ix m h r) = N by omega]
    · have f : (List.range (SetTable.runEnd m (rs m h r).1 + 1 - (rs m h r).1)).find? (fun k => (ow.getD ((rs m h r).1 + k) (some 0)).isNone) = none := by
        rw [List.find?_eq_none]
        intro k hk
        have hk' := List.mem_range.mp hk
        rw [ge _ (by omega)]
        have := tkn (ix m h r + k) (by omega)
        revert this
        cases own ow (J m h (ix m h r + k)) <;> simp
      rw [f]
      dsimp only
      exact free_is sz free tkn hN fuel (r + 1) (by omega) (by show ix m h r + mo m (rs m h r).1 + 1 ≤ N; omega)
structure LI (m : Nat) (ow : Array (Option Nat)) (hs : List Int) : Prop where
  sz : ow.size = m + 1
  path : ∀ j i, own ow j = some i → ∃ h, hs[i]? = some h ∧ Path m (tk m ow) h j
  all : ∀ i, i < hs.length → ∃ j, own ow j = some i
  inj : ∀ j j' i, own ow j = some i → own ow j' = some i → j = j'
theorem own_lt {ow : Array (Option Nat)} {j i : Nat} (h : own ow j = some i) : j < ow.size := by
  unfold own Array.getD at h
  split at h
  · assumption
  · cases h
theorem LI.perm {m : Nat} {ow : Array (Option Nat)} {hs : List Int} (L : LI m ow hs) : ((lv m ow).map (·.2)).Perm (List.range hs.length) := by
  refine (List.perm_ext_iff_of_nodup ?_ List.nodup_range).mpr fun i => ?_
  · have nd : (lv m ow).Nodup := by
      have := List.pairwise_map.mp (tk_rise m ow)
      exact this.imp fun {a b} h e => by rw [e] at h; exact Nat.lt_irrefl _ h
    refine List.pairwise_map.mpr (List.Pairwise.imp_of_mem ?_ nd)
    intro a b ha hb ne e
    obtain ⟨_, ha⟩ := mem_lv.mp ha
    obtain ⟨_, hb⟩ := mem_lv.mp hb
    have : a.1 = b.1 := L.inj _ _ _ ha (by rw [hb, e])
    exact ne (Prod.ext this e)
  · rw [List.mem_map, List.mem_range]
    constructor
    · rintro ⟨q, hq, rfl⟩
      obtain ⟨h, e, _⟩ := L.path _ _ (mem_lv.mp hq).2
      exact (List.getElem?_eq_some_iff.mp e).1
    · intro hi
      obtain ⟨j, e⟩ := L.all i hi
      exact ⟨(j, i), mem_lv.mpr ⟨by have := own_lt e; rw [L.sz] at this; omega, e⟩, rfl⟩
theorem own_set {ow : Array (Option Nat)} {j k : Nat} (hj : j < ow.size) (j' : Nat) : own (ow.setIfInBounds j (some k)) j' = if j' = j then some k else own ow j' := by
  unfold own
  rw [Array.getD_eq_getD_getElem?, Array.getD_eq_getD_getElem?, Array.getElem?_setIfInBounds]
  by_cases e : j' = j
  · subst e; simp [hj]
  · rw [if_neg (fun z => e (Eq.symm z)), if_neg e]
theorem LI.step {m : Nat} {ow : Array (Option Nat)} {hs : List Int} (k : cycOk (m + 1) = true) (L : LI m ow hs) (h : Int) (room : hs.length ≤ m) :
    ∃ j, SetTable.layClean.free m ow (SetTable.turns m) (SetTable.bits h % (m + 1)) (SetTable.bits h) = some j ∧ LI m (ow.setIfInBounds j (some hs.length)) (hs ++ [h]) := by
  have tl : (tk m ow).length = hs.length := by
    have := L.perm.length_eq
    rw [List.length_range, List.length_map] at this
    rw [← this, List.length_map]
  obtain ⟨N, ⟨R, hR, hN⟩, nj, at_⟩ := first_free k h (tk := tk m ow) (by omega)
  have jl := (J_le m h N).1
  have fr : own ow (J m h N) = none := by
    cases e : own ow (J m h N) with
    | none => rfl
    | some i => exact absurd (mem_tk.mpr ⟨jl, by rw [e]; rfl⟩) nj
  refine ⟨J m h N, free_is L.sz fr (fun l hl => (mem_tk.mp (at_ l hl)).2) hN (SetTable.turns m) 0 (by unfold SetTable.turns; omega) (Nat.zero_le _), ?_⟩
  have hb : J m h N < ow.size := by rw [L.sz]; omega
  have st := own_set (k := hs.length) hb
  have sub : ∀ x ∈ tk m ow, x ∈ tk m (ow.setIfInBounds (J m h N) (some hs.length)) := fun x hx => by
    obtain ⟨a, b⟩ := mem_tk.mp hx
    refine mem_tk.mpr ⟨a, ?_⟩
    rw [st]
    split
    · rfl
    · exact b
  refine ⟨by rw [Array.size_setIfInBounds]; exact L.sz, fun j i e => ?_, fun i hi => ?_, fun j j' i e e' => ?_⟩
  · rw [st] at e
    by_cases c : j = J m h N
    · rw [if_pos c] at e
      cases e
      exact ⟨h, by simp, N, by have := ix_le m h R; omega, c.symm, fun l hl => sub _ (at_ l hl)⟩
    · rw [if_neg c] at e
      obtain ⟨h', e1, p⟩ := L.path j i e
      exact ⟨h', by rw [List.getElem?_append_left (List.getElem?_eq_some_iff.mp e1).1]; exact e1, p.more sub⟩
  · rw [List.length_append, List.length_singleton] at hi
    by_cases c : i = hs.length
    · exact ⟨J m h N, by rw [st, if_pos rfl, c]⟩
    · obtain ⟨j, e⟩ := L.all i (by omega)
      refine ⟨j, ?_⟩
      rw [st, if_neg]
      · exact e
      · rintro rfl; rw [fr] at e; cases e
  · rw [st] at e e'
    have old : ∀ x, own ow x = some i → i < hs.length := fun x hx => by
      obtain ⟨_, z, _⟩ := L.path x i hx
      exact (List.getElem?_eq_some_iff.mp z).1
    by_cases c : j = J m h N
    · by_cases c' : j' = J m h N
      · rw [c, c']
      · rw [if_pos c] at e
        rw [if_neg c'] at e'
        cases e
        exact absurd (old _ e') (Nat.lt_irrefl _)
    · by_cases c' : j' = J m h N
      · rw [if_neg c] at e
        rw [if_pos c'] at e'
        cases e'
        exact absurd (old _ e) (Nat.lt_irrefl _)
      · rw [if_neg c] at e
        rw [if_neg c'] at e'
        exact L.inj _ _ _ e e'
theorem LI.new (m : Nat) : LI m (Array.replicate (m + 1) none) [] := by
  have no : ∀ j, own (Array.replicate (m + 1) none) j = none := fun j => by
    unfold own Array.getD
    split <;> simp
  refine ⟨by simp, fun j i e => ?_, fun i h => absurd h (Nat.not_lt_zero _), fun j j' i e => ?_⟩ <;> (rw [no] at e; cases e)
theorem lay_ok {m : Nat} (k : cycOk (m + 1) = true) {hs : Array Int} (room : hs.size ≤ m + 1) : ∃ ow, SetTable.layClean m hs = some ow ∧ LI m ow hs.toList := by
  unfold SetTable.layClean
  rw [← Array.foldl_toList]
  have key : ∀ (rest done : List Int) (ow : Array (Option Nat)), LI m ow done → (done ++ rest).length ≤ m + 1 →
      ∃ ow', List.foldl (fun acc h => do
        let (owner, k) ← acc
        let j ← SetTable.layClean.free m owner (SetTable.turns m) (SetTable.bits h % (m + 1)) (SetTable.bits h)
        pure (owner.setIfInBounds j (some k), k + 1)) (some (ow, done.length)) rest = some (ow', (done ++ rest).length) ∧ LI m ow' (done ++ rest) := by
    intro rest
    induction rest with
    | nil => intro done ow L _; exact ⟨ow, by simp, by simpa using L⟩
    | cons h r ih =>
      intro done ow L hl
      obtain ⟨j, e, L'⟩ := L.step k h (by simp at hl; omega)
      obtain ⟨ow', e2, L2⟩ := ih (done ++ [h]) _ L' (by simpa using hl)
      refine ⟨ow', ?_, by simpa using L2⟩
      rw [List.foldl_cons]
      have e3 : (do
        let (owner, k) ← (some (ow, done.length) : Option (Array (Option Nat) × Nat))
        let j ← SetTable.layClean.free m owner (SetTable.turns m) (SetTable.bits h % (m + 1)) (SetTable.bits h)
        pure (owner.setIfInBounds j (some k), k + 1)) = some (ow.setIfInBounds j (some done.length), (done ++ [h]).length) := by
        show (SetTable.layClean.free m ow (SetTable.turns m) (SetTable.bits h % (m + 1)) (SetTable.bits h)).bind _ = _
        rw [e]
        simp
      rw [e3]
      simpa using e2
  obtain ⟨ow, e, L⟩ := key hs.toList [] _ (LI.new m) (by simpa using room)
  refine ⟨ow, ?_, by simpa using L⟩
  erw [e]
  rfl
end ST
namespace L2
open PySem PySem.Spec PyProof.Rows
abbrev Key := Sum Int Str
def keyIs : Key → Value → Bool
  | .inl k, v => Value.isInt k v
  | .inr x, v => Value.isStrOf x v
def keyH (w : World) : Key → Int
  | .inl k => hashInt k
  | .inr x => hashStr w x
theorem keyIs_shape : ∀ {k : Key} {v : Value}, keyIs k v = true → (∃ i t, k = Sum.inl i ∧ v = Value.int i t) ∨ (∃ x t, k = Sum.inr x ∧ v = Value.str x t)
  | .inl i, v, h => by
    obtain ⟨t, e⟩ := Value.isInt_shape (k := i) (v := v) h
    exact .inl ⟨i, t, rfl, e⟩
  | .inr x, v, h => by
    obtain ⟨t, e⟩ := Value.isStrOf_shape (x := x) (v := v) h
    exact .inr ⟨x, t, rfl, e⟩
theorem keyIs_int (i : Int) (t : Tok) : keyIs (.inl i) (.int i t) = true := by simp [keyIs, Value.isInt]
theorem keyIs_str (x : Str) (t : Tok) : keyIs (.inr x) (.str x t) = true := by simp [keyIs, Value.isStrOf]
theorem key_ll (a b : Int) : decide ((Sum.inl a : Key) = Sum.inl b) = (a == b) := by
  by_cases e : a = b
  · subst e; simp
  · have h : ¬ (Sum.inl a : Key) = Sum.inl b := fun q => e (Sum.inl.inj q)
    rw [decide_eq_false h]
    exact (beq_eq_false_iff_ne.mpr e).symm
theorem key_rr (a b : Str) : decide ((Sum.inr a : Key) = Sum.inr b) = decide (a = b) := by
  by_cases e : a = b
  · subst e; simp
  · have h : ¬ (Sum.inr a : Key) = Sum.inr b := fun q => e (Sum.inr.inj q)
    rw [decide_eq_false h, decide_eq_false e]
theorem key_lr (a : Int) (b : Str) : decide ((Sum.inl a : Key) = Sum.inr b) = false := decide_eq_false (fun q => nomatch q)
theorem key_rl (a : Str) (b : Int) : decide ((Sum.inr a : Key) = Sum.inl b) = false := decide_eq_false (fun q => nomatch q)
def mixKind (prog : Program) (w : World) : PySem.KeyKind prog w Key where
  is := keyIs
  hash := keyH w
  inj := fun v a b ha hb => by
    rcases keyIs_shape ha with ⟨i, t, rfl, rfl⟩ | ⟨x, t, rfl, rfl⟩
    · rcases keyIs_shape hb with ⟨j, u, rfl, e⟩ | ⟨y, u, rfl, e⟩
      · injection e with e1 _; rw [e1]
      · exact nomatch e
    · rcases keyIs_shape hb with ⟨j, u, rfl, e⟩ | ⟨y, u, rfl, e⟩
      · exact nomatch e
      · injection e with e1 _; rw [e1]
  byValue := fun k v h => by
    rcases keyIs_shape h with ⟨i, t, rfl, rfl⟩ | ⟨x, t, rfl, rfl⟩ <;> rfl
  pyHash := fun hv h => by
    rcases keyIs_shape hv with ⟨i, t, rfl, rfl⟩ | ⟨x, t, rfl, rfl⟩
    · exact wpAny_pyHash_int h
    · exact wpAny_pyHash_str h
  eqBool := fun hu hv h => by
    rcases keyIs_shape hu with ⟨i, t, rfl, rfl⟩ | ⟨x, t, rfl, rfl⟩
    · rcases keyIs_shape hv with ⟨j, u, rfl, rfl⟩ | ⟨y, u, rfl, rfl⟩
      · rw [key_ll] at h; exact wpAny_eqBool_int h
      · rw [key_lr] at h; exact SeqAt.EqAt.int_str i t y u _ _ _ _ h
    · rcases keyIs_shape hv with ⟨j, u, rfl, rfl⟩ | ⟨y, u, rfl, rfl⟩
      · rw [key_rl] at h; exact SeqAt.EqAt.str_int x t j u _ _ _ _ h
      · rw [key_rr] at h; exact wpAny_eqBool_str h
  «strs» := fun k x t v h => by
    rcases keyIs_shape h with ⟨i, u, rfl, e⟩ | ⟨y, u, rfl, e⟩
    · exact nomatch e
    · injection e with e1 _
      subst e1
      cases v <;> rfl
theorem mixKind_int (prog : Program) (w : World) (i : Int) (t : Tok) : (mixKind prog w).is (.inl i) (.int i t) = true := keyIs_int i t
theorem mixKind_str (prog : Program) (w : World) (x : Str) (t : Tok) : (mixKind prog w).is (.inr x) (.str x t) = true := keyIs_str x t
end L2
namespace L2
open PySem PySem.Spec PyProof.Rows
inductive V where
  | non | bl (b : Bool) | int (i : Int) | str (x : Str) | byt (b : Array UInt8) | flt (b : UInt64) | ref (a : Addr) | ty (n : String)
  deriving DecidableEq
def RelV : V → Value → Prop
  | .non, u => u = Value.none
  | .bl b, u => u = Value.bool b
  | .int i, u => ∃ t, u = Value.int i t
  | .str x, u => ∃ t, u = Value.str x t
  | .byt b, u => ∃ t, u = Value.bytes b t
  | .flt b, u => ∃ t, u = Value.float b t
  | .ref a, u => u = Value.ref a
  | .ty n, u => u = Value.type n
abbrev Vals : List V → List Value → Prop := Paired RelV
theorem Vals.length {xs : List V} {us : List Value} (r : Vals xs us) : xs.length = us.length := Paired.length r
theorem Vals.get : ∀ {xs : List V} {us : List Value} {i : Nat} {x : V}, Vals xs us → xs[i]? = some x → ∃ u, us[i]? = some u ∧ RelV x u
  | _, _, _, _, .nil, e => by simp at e
  | _, _, 0, _, .cons r _, e => by simp at e; subst e; exact ⟨_, rfl, r⟩
  | _, _, i + 1, x, .cons _ t, e => by
    obtain ⟨u, h1, h2⟩ := Vals.get (i := i) (x := x) t (by simpa using e)
    exact ⟨u, by simpa using h1, h2⟩
theorem Vals.set {x : V} {u : Value} (r : RelV x u) : ∀ {xs : List V} {us : List Value} (i : Nat), Vals xs us → Vals (xs.set i x) (us.set i u)
  | _, _, _, .nil => .nil
  | _, _, 0, .cons _ t => .cons r t
  | _, _, i + 1, .cons q t => .cons q (Vals.set r i t)
theorem Vals.append : ∀ {xs ys : List V} {us ws : List Value}, Vals xs us → Vals ys ws → Vals (xs ++ ys) (us ++ ws)
  | _, _, _, _, .nil, s => s
  | _, _, _, _, .cons r t, s => .cons r (Vals.append t s)
theorem Vals.take : ∀ {xs : List V} {us : List Value} (n : Nat), Vals xs us → Vals (xs.take n) (us.take n)
  | _, _, 0, _ => .nil
  | _, _, _ + 1, .nil => .nil
  | _, _, n + 1, .cons r t => .cons r (Vals.take n t)
theorem Vals.drop : ∀ {xs : List V} {us : List Value} (n : Nat), Vals xs us → Vals (xs.drop n) (us.drop n)
  | _, _, 0, r => r
  | _, _, _ + 1, .nil => .nil
  | _, _, n + 1, .cons _ t => Vals.drop n t
def RelO : Option V → Option Value → Prop
  | some v, some u => RelV v u
  | none, none => True
  | _, _ => False
def KV {κ : Type} : List (κ × V) → List (κ × Value) → Prop := Paired fun (p : κ × V) (q : κ × Value) => p.1 = q.1 ∧ RelV p.2 q.2
def kV : Key → V
  | .inl i => .int i
  | .inr x => .str x
inductive HO where
  /-- a list -/
  | lst (xs : List V)
  /-- a tuple (never changes) -/
  | tup (xs : List V)
  /-- a dict whose keys are ints and texts; one whose keys are tuples of ints and texts (the empty one is both) -/
  | dK (kvs : List (Key × V)) | dT (kvs : List (List Key × V))
  /-- a set of ints: its members, its size -/
  | set (S : Int → Bool) (n : Nat)
  /-- an instance of the class at C, its dict at dx, its attributes -/
  | ins (C dx : Addr) (fs : List (Str × V))
  /-- the dict of the instance at x -/
  | own (x : Addr)
  /-- the dict of an exception -/
  | xd (fs : List (Str × V))
  /-- a bound method, f of x -/
  | met (f x : Addr)
  /-- a range object lo, lo + 1, .. below hi -/
  | rng (lo hi : Int)
  /-- a thing that is known to the object (the script; a dict while a loop walks it): read, never written while it is so -/
  | frz (o : Obj) (u : HO)
  /-- a code object's table -/
  | tbl (ps : Array Value)
  /-- any other thing, by what is true of its one object (a def of one's own: SetO a S n := HO.ext fun h => ..) -/
  | ext (φ : Heap → Prop)
abbrev Hp := Addr → Option HO
def upd (H : Hp) (a : Addr) (o : HO) : Hp := fun b => if b = a then some o else H b
theorem upd_same {H : Hp} {a : Addr} {o : HO} : upd H a o a = some o := by unfold upd; rw [if_pos rfl]
theorem upd_ne {H : Hp} {a b : Addr} {o : HO} (h : b ≠ a) : upd H a o b = H b := by unfold upd; rw [if_neg h]
theorem ne_of {H : Hp} {a b : Addr} {o u : HO} (h : H a = some o) (h' : H b = some u) (d : o ≠ u) : a ≠ b := by
  intro e; subst e; rw [h] at h'; exact d (Option.some.inj h')
theorem ne_of_none {H : Hp} {a b : Addr} {o : HO} (h : H a = some o) (h' : H b = none) : a ≠ b := by
  intro e; subst e; rw [h] at h'; cases h'
section
variable (P : Program) (w : World)
def ObjOk (H : Hp) (h : Heap) (a : Addr) : HO → Prop
  | .lst xs => xs.length ≤ sizeLine ∧ ∃ (its : List Value) (n : Nat), Vals xs its ∧ h.get? a = some { cls := .type "list", data := .seq its.toArray n }
  | .tup xs => xs.length ≤ sizeLine ∧ ∃ its : List Value, Vals xs its ∧ IsTup h a its.toArray
  | .dK kvs => kvs.length ≤ sizeLine ∧ (a == sysModules) = false ∧ ∃ vs, KV kvs vs ∧ h.DictOf (mixKind P w) a vs
  | .dT kvs => kvs.length ≤ sizeLine ∧ (a == sysModules) = false ∧ ∃ xs : List (List Key × Addr × Value),
      Paired (fun (p : List Key × V) (q : List Key × Addr × Value) => p.1 = q.1 ∧ H q.2.1 = some (.tup (p.1.map kV)) ∧ RelV p.2 q.2.2) kvs xs ∧
      ∃ o es ep, h.get? a = some o ∧ o.ExactDict ∧ o.data = .dict es ep ∧ es.toList = xs.map (entryOfKey (tupleKind (mixKind P w))) ∧ (xs.map (·.1)).Nodup
  | .set S n => h.SetOf (intKind P w) a S n
  | .ins C dx fs => H dx = some (.own a) ∧ fs.length ≤ 1000 ∧ dx ≠ a ∧ h.get? a = some (PySem.W.instObj C dx) ∧
      ∃ mA, h.Ns1 dx mA ∧ (∀ f, RelO (fs.lookup f) (mA f)) ∧ PySem.Within mA (fs.map (·.1))
  | .own _ => ∃ o, h.get? a = some o
  | .xd fs => ∃ mA, h.Ns1 a mA ∧ ∀ f, RelO (fs.lookup f) (mA f)
  | .rng lo hi => ∃ t u v, h.get? a = some { cls := .type "range", data := .fields #[.int lo t, .int hi u, .int 1 v] }
  | .frz o u => h.get? a = some o ∧ ObjOk H h a u
  | .tbl ps => h.get? a = some { cls := .none, data := .fields ps }
  | .met f x => h.get? a = some (PySem.W.methodObj (.ref f) (.ref x))
  | .ext φ => φ h ∧ (∃ o, h.get? a = some o) ∧ ∀ h1 h2 : Heap, φ h1 → (∀ o, h1.get? a = some o → h2.get? a = some o) → φ h2
def HOk (H : Hp) (h : Heap) : Prop := ∀ a o, H a = some o → ObjOk P w H h a o
end
section
variable {P : Program} {w : World} {H H' : Hp} {h h' : Heap} {a : Addr} {o : HO}
theorem ObjOk.lt (x : ObjOk P w H h a o) : a < h.objs.size := by
  cases o with
  | lst xs => obtain ⟨_, _, _, _, e⟩ := x; exact Heap.lt_size e
  | tup xs => obtain ⟨_, _, _, p⟩ := x; exact p.lt
  | dK kvs => obtain ⟨_, _, _, _, o, _, _, e, _⟩ := x; exact Heap.lt_size e
  | dT kvs => obtain ⟨_, _, _, _, o, _, _, e, _⟩ := x; exact Heap.lt_size e
  | set S n => obtain ⟨o, _, _, _, e, _⟩ := x; exact Heap.lt_size e
  | ins C dx fs => obtain ⟨_, _, _, e, _⟩ := x; exact Heap.lt_size e
  | own y => obtain ⟨_, e⟩ := x; exact Heap.lt_size e
  | xd fs => obtain ⟨_, ⟨_, _, _, e, _⟩, _⟩ := x; exact Heap.lt_size e
  | rng lo hi => obtain ⟨_, _, _, e⟩ := x; exact Heap.lt_size e
  | frz ob u => obtain ⟨e, _⟩ := x; exact Heap.lt_size e
  | tbl ps => exact Heap.lt_size (show h.get? a = some _ from x)
  | met f y => exact Heap.lt_size (show h.get? a = some _ from x)
  | ext φ => obtain ⟨_, ⟨_, e⟩, _⟩ := x; exact Heap.lt_size e
theorem Paired.mapP {α β : Type} {F G : α → β → Prop} : ∀ {l₁ : List α} {l₂ : List β}, Paired F l₁ l₂ → (∀ a b, F a b → G a b) → Paired G l₁ l₂
  | _, _, .nil, _ => .nil
  | _, _, .cons r t, f => .cons (f _ _ r) (Paired.mapP t f)
theorem ObjOk.stay (x : ObjOk P w H h a o) (k : ∀ b u, (b = a ∨ H b = some (.own a)) → h.get? b = some u → h'.get? b = some u)
    (ho : ∀ b, H b = some (.own a) → H' b = some (.own a)) (ht : ∀ b xs, H b = some (.tup xs) → H' b = some (.tup xs)) : ObjOk P w H' h' a o := by
  induction o with
  | lst xs => obtain ⟨z, its, n, r, e⟩ := x; exact ⟨z, its, n, r, k _ _ (.inl rfl) e⟩
  | tup xs => obtain ⟨z, its, r, ob, e, c⟩ := x; exact ⟨z, its, r, ob, k _ _ (.inl rfl) e, c⟩
  | dK kvs => obtain ⟨z, y, vs, r, ob, es, ep, e, c⟩ := x; exact ⟨z, y, vs, r, ob, es, ep, k _ _ (.inl rfl) e, c⟩
  | dT kvs =>
    obtain ⟨z, y, xs, r, ob, es, ep, e, c⟩ := x
    exact ⟨z, y, xs, Paired.mapP r fun p q z => ⟨z.1, ht _ _ z.2.1, z.2.2⟩, ob, es, ep, k _ _ (.inl rfl) e, c⟩
  | set S n => obtain ⟨ob, es, ep, t, e, c⟩ := x; exact ⟨ob, es, ep, t, k _ _ (.inl rfl) e, c⟩
  | ins C dx fs =>
    obtain ⟨d, z, ne, e, mA, ⟨od, es, ep, e2, c⟩, r⟩ := x
    exact ⟨ho _ d, z, ne, k _ _ (.inl rfl) e, mA, ⟨od, es, ep, k _ _ (.inr d) e2, c⟩, r⟩
  | own y => obtain ⟨ob, e⟩ := x; exact ⟨ob, k _ _ (.inl rfl) e⟩
  | xd fs => obtain ⟨mA, ⟨od, es, ep, e, c⟩, r⟩ := x; exact ⟨mA, ⟨od, es, ep, k _ _ (.inl rfl) e, c⟩, r⟩
  | rng lo hi => obtain ⟨t, u, v, e⟩ := x; exact ⟨t, u, v, k _ _ (.inl rfl) e⟩
  | frz ob u ih => obtain ⟨e, q⟩ := x; exact ⟨k _ _ (.inl rfl) e, ih q⟩
  | tbl ps =>
    have e : h.get? a = some { cls := .none, data := .fields ps } := x
    show h'.get? a = some { cls := .none, data := .fields ps }
    exact k a _ (.inl rfl) e
  | met f y =>
    have e : h.get? a = some (PySem.W.methodObj (.ref f) (.ref y)) := x
    show h'.get? a = some (PySem.W.methodObj (.ref f) (.ref y))
    exact k a _ (.inl rfl) e
  | ext φ => obtain ⟨p, ⟨o, e⟩, st⟩ := x; exact ⟨st _ _ p fun o q => k _ _ (.inl rfl) q, ⟨o, k _ _ (.inl rfl) e⟩, st⟩
theorem HOk.lt (x : HOk P w H h) (e : H a = some o) : a < h.objs.size := (x a o e).lt
theorem HOk.fresh (x : HOk P w H h) (e : h.objs.size ≤ a) : H a = none := by
  cases q : H a with
  | none => rfl
  | some u => exact absurd (Nat.lt_of_lt_of_le (x.lt q) e) (Nat.lt_irrefl _)
theorem HOk.kept (x : HOk P w H h) (k : ∀ b u, h.get? b = some u → h'.get? b = some u) : HOk P w H h' := fun a o e =>
  (x a o e).stay (fun b u _ q => k b u q) (fun _ q => q) fun _ _ q => q
theorem HOk.laid (x : HOk P w H h) (k : ∀ b u, h.get? b = some u → h'.get? b = some u) (hp : h.objs.size ≤ a) (new : ObjOk P w (upd H a o) h' a o) : HOk P w (upd H a o) h' := fun b u e => by
  have hn := x.fresh hp
  by_cases hb : b = a
  · subst hb; rw [upd_same] at e; cases e; exact new
  · rw [upd_ne hb] at e
    exact (x b u e).stay (fun c v _ q => k c v q) (fun c q => by rw [upd_ne (ne_of_none q hn)]; exact q) fun c xs q => by rw [upd_ne (ne_of_none q hn)]; exact q
end
def Rd (H : Hp) (a : Addr) (u : HO) : Prop := H a = some u ∨ ∃ o, H a = some (.frz o u)
theorem Rd.of {H : Hp} {a : Addr} {u : HO} (h : H a = some u) : Rd H a u := .inl h
theorem Rd.ok {P : Program} {w : World} {H : Hp} {h : Heap} {a : Addr} {u : HO} (r : Rd H a u) (x : HOk P w H h) : ObjOk P w H h a u := by
  rcases r with r | ⟨o, r⟩
  · exact x a u r
  · obtain ⟨_, q⟩ := x a _ r
    exact q
def Mut : Option HO → Prop
  | some (.lst _) => True
  | some (.dK _) => True
  | some (.dT _) => True
  | some (.set _ _) => True
  | some (.ins _ _ _) => True
  | some (.ext _) => True
  | _ => False
section
variable {P : Program} {w : World} {H : Hp} {h h' : Heap} {x e : Addr} {o' : HO}
theorem HOk.write (ok : HOk P w H h) (mu : Mut (H x)) (he : e = x ∨ H e = some (.own x)) (k : ∀ b u, b ≠ e → h.get? b = some u → h'.get? b = some u) (heo : ∃ u, h'.get? e = some u)
    (new : ObjOk P w (upd H x o') h' x o') : HOk P w (upd H x o') h' := fun b u q => by
  have nown : ∀ c y, H c = some (.own y) → c ≠ x := fun c y r z => by subst z; rw [r] at mu; exact mu
  have ntup : ∀ c xs, H c = some (.tup xs) → c ≠ x := fun c xs r z => by subst z; rw [r] at mu; exact mu
  by_cases hb : b = x
  · subst hb; rw [upd_same] at q; cases q; exact new
  · rw [upd_ne hb] at q
    by_cases hbe : b = e
    · have q' : H b = some (.own x) := by
        rcases he with z | z
        · exact absurd (hbe.trans z) hb
        · rw [hbe]; exact z
      rw [q] at q'; cases q'
      obtain ⟨v, hv⟩ := heo
      exact ⟨v, by rw [hbe]; exact hv⟩
    · refine (ok b u q).stay (fun c v hc r => k c v ?_ r) (fun c r => by rw [upd_ne (nown c b r)]; exact r) fun c xs r => by rw [upd_ne (ntup c xs r)]; exact r
      rcases hc with rfl | hc
      · exact hbe
      · rintro rfl
        rcases he with z | z
        · exact nown c b hc z
        · rw [hc] at z; cases z; exact hb rfl
end
structure Un (fs ex : List Addr) (H H' : Hp) (h h' : Heap) : Prop where
  keep : ∀ b o, h.get? b = some o → H b = none → b ∉ fs → b ∉ ex → h'.get? b = some o
  slot : ∀ b o, h.get? b = some o → H b = none → b ∈ fs → b ∉ ex → ∃ sl, h'.get? b = some { o with slots := sl }
  free : ∀ b o, h.get? b = some o → H b = none → b ∉ ex → H' b = none
  there : ∀ b o, h.get? b = some o → b ∉ ex → ∃ o', h'.get? b = some o'
  tups : ∀ b xs, H b = some (.tup xs) → H' b = some (.tup xs)
  frzs : ∀ b o u, H b = some (.frz o u) → H' b = some (.frz o u)
  tbls : ∀ b ps, H b = some (.tbl ps) → ∃ more, H' b = some (.tbl (ps ++ more))
section
variable {fs fs' ex ex' : List Addr} {H H1 H2 : Hp} {h h1 h2 h' : Heap} {a x e : Addr} {o : HO}
theorem Un.any (u : Un fs ex H H1 h h1) {b : Addr} {ob : Obj} (q : h.get? b = some ob) (n : H b = none) (hx : b ∉ ex) : ∃ sl, h1.get? b = some { ob with slots := sl } := by
  by_cases hb : b ∈ fs
  · exact u.slot b ob q n hb hx
  · exact ⟨ob.slots, u.keep b ob q n hb hx⟩
theorem Un.trans (a : Un fs ex H H1 h h1) (b : Un fs ex H1 H2 h1 h2) : Un fs ex H H2 h h2 where
  keep := fun c ob q n hc hx => b.keep c ob (a.keep c ob q n hc hx) (a.free c ob q n hx) hc hx
  slot := fun c ob q n hc hx => by
    obtain ⟨sl, e1⟩ := a.slot c ob q n hc hx
    obtain ⟨sl', e2⟩ := b.slot c _ e1 (a.free c ob q n hx) hc hx
    exact ⟨sl', e2⟩
  free := fun c ob q n hx => by
    obtain ⟨o', e1⟩ := a.there c ob q hx
    exact b.free c o' e1 (a.free c ob q n hx) hx
  there := fun c ob q hx => by
    obtain ⟨o', e1⟩ := a.there c ob q hx
    exact b.there c o' e1 hx
  tups := fun c xs q => b.tups c xs (a.tups c xs q)
  frzs := fun c ob xs q => b.frzs c ob xs (a.frzs c ob xs q)
  tbls := fun c ps q => by
    obtain ⟨m1, e1⟩ := a.tbls c ps q
    obtain ⟨m2, e2⟩ := b.tbls c _ e1
    exact ⟨m1 ++ m2, by rw [e2, Array.append_assoc]⟩
theorem Un.kept (k : ∀ b u, h.get? b = some u → h'.get? b = some u) : Un fs ex H H h h' :=
  ⟨fun b ob q _ _ _ => k b ob q, fun b ob q _ _ _ => ⟨ob.slots, k b ob q⟩, fun _ _ _ n _ => n, fun b ob q _ => ⟨ob, k b ob q⟩, fun _ _ q => q, fun _ _ _ q => q, fun _ ps q => ⟨#[], by rw [q]; simp⟩⟩
theorem Un.refl : Un fs ex H H h h := Un.kept fun _ _ q => q
theorem Un.laid (k : ∀ b u, h.get? b = some u → h'.get? b = some u) (hp : h.objs.size ≤ a) (hn : H a = none) : Un fs ex H (upd H a o) h h' where
  keep := fun b u q _ _ _ => k b u q
  slot := fun b u q _ _ _ => ⟨u.slots, k b u q⟩
  free := fun b u q n _ => by rw [upd_ne (Nat.ne_of_lt (Nat.lt_of_lt_of_le (Heap.lt_size q) hp))]; exact n
  there := fun b u q _ => ⟨u, k b u q⟩
  tups := fun b xs q => by rw [upd_ne (ne_of_none q hn)]; exact q
  frzs := fun b u xs q => by rw [upd_ne (ne_of_none q hn)]; exact q
  tbls := fun b ps q => ⟨#[], by rw [upd_ne (ne_of_none q hn), q]; simp⟩
theorem Un.write (mu : Mut (H x)) (he : e = x ∨ H e = some (.own x)) (k : ∀ b u, b ≠ e → h.get? b = some u → h'.get? b = some u) (heo : ∃ u, h'.get? e = some u) : Un fs ex H (upd H x o) h h' := by
  have hx : ∀ b, H b = none → b ≠ x := fun b n z => by subst z; rw [n] at mu; exact mu
  have hb : ∀ b, H b = none → b ≠ e := fun b n z => by
    subst z
    rcases he with r | r
    · exact hx b n r
    · rw [n] at r; cases r
  have hm : ∀ b u, H b = some u → ¬ Mut (some u) → b ≠ x := fun b u q nm z => by subst z; rw [q] at mu; exact nm mu
  refine ⟨fun b u q n _ _ => k b u (hb b n) q, fun b u q n _ _ => ⟨u.slots, k b u (hb b n) q⟩, fun b u q n _ => by rw [upd_ne (hx b n)]; exact n, fun b u q _ => ?_,
    fun b xs q => by rw [upd_ne (hm b _ q fun z => z)]; exact q, fun b u xs q => by rw [upd_ne (hm b _ q fun z => z)]; exact q, fun b ps q => ⟨#[], by rw [upd_ne (hm b _ q fun z => z), q]; simp⟩⟩
  by_cases hbe : b = e
  · subst hbe; exact heo
  · exact ⟨u, k b u hbe q⟩
theorem Un.mono (u : Un fs ex H H1 h h1) (hs : ∀ b ∈ fs, b ∈ fs') (hx : ∀ b ∈ ex, b ∈ ex') : Un fs' ex' H H1 h h1 :=
  ⟨fun b ob q n hb he => u.keep b ob q n (fun z => hb (hs b z)) fun z => he (hx b z), fun _ _ q n _ he => u.any q n fun z => he (hx _ z), fun b ob q n he => u.free b ob q n fun z => he (hx b z), fun b ob q he => u.there b ob q fun z => he (hx b z), u.tups, u.frzs, u.tbls⟩
end
def trk (h : Heap) (H : Hp) : List Addr := (List.range h.objs.size).filter fun a => (H a).isSome
def hidT (h : Heap) (H : Hp) : Heap := PySem.W.hideAll h (trk h H)
theorem hidT_size (h : Heap) (H : Hp) : (hidT h H).objs.size = h.objs.size := PySem.W.hideAll_size _ _
theorem hidT_get {h : Heap} {H : Hp} {b : Addr} {o : Obj} (e : h.get? b = some o) (n : H b = none) : (hidT h H).get? b = some o :=
  PySem.W.hideAll_get _ e fun hm => by
    have q : (H b).isSome = true := (List.mem_filter.mp hm).2
    rw [n] at q; simp at q
theorem of_hidT {h : Heap} {H : Hp} {b : Addr} {o : Obj} (e : (hidT h H).get? b = some o) : h.get? b = some o ∧ H b = none := by
  have e' : h.get? b = some o := PySem.W.of_hideAll (trk h H) e
  refine ⟨e', ?_⟩
  cases q : H b with
  | none => rfl
  | some x =>
    have hm : b ∈ trk h H := List.mem_filter.mpr ⟨List.mem_range.mpr (Heap.lt_size e'), by simp [q]⟩
    have z : (hidT h H).get? b = none := PySem.W.hideAll_none (trk h H) hm
    rw [z] at e; cases e
def allNews (g h : Heap) (L : Addr) : List (Addr × Obj) := (List.range h.objs.size).filterMap fun a => if a = L ∨ (g.get? a).isSome = true then none else (h.get? a).map fun o => (a, o)
def rest (g h : Heap) (L d : Addr) : List (Addr × Obj) := (allNews g h L).filter fun p => decide (p.1 ≠ d)
end L2
namespace L2
open PySem PySem.Spec PyProof.Rows
structure Mod (K : PySem.W.Frag) (mg : Str → Option Value) (base : Heap) : Prop where
  kin : K.In base
  glob : base.Ns mainGlobals mg
  blt : ∃ mb, base.Ns builtinsNs mb ∧ ∀ x : Str, x ≠ "__name__" → mb x = bootBuiltins x
  nolimit : base.NoLimit
structure Cx where
  prog : Program
  w : World
  K : PySem.W.Frag
  mg : Str → Option Value
  base : Heap
  A : Around
  N : List Str
  s₀ : Shared
  H₀ : Hp
  env : Env
  outer : List Env
  stack : List Env
  ex : List Addr
  fn : Str → Bool
  calm : Bool
  pn : List (Addr × Obj)
  xe : Value → Shared → Prop
def frs (l : List Env) : List Addr := l.filterMap (·.frame)
abbrev Cx.fs (X : Cx) : List Addr := frs X.outer
def Vis (sc : Scope) (x : Str) : Prop := sc.names.lookup x = some .local ∨ sc.names.lookup x = some .cell ∨ sc.names.lookup x = some .free
def Loc (sc : Scope) (x : Str) : Prop := sc.names.lookup x = some .local ∨ sc.names.lookup x = some .cell
def Look (env : Env) (h : Heap) (m : Str → Option Value) (x : Str) (u : Value) : Prop :=
  (env.kindOf x = some .local ∧ m x = some u) ∨ ((env.kindOf x = some .cell ∨ env.kindOf x = some .free) ∧ ∃ c, env.cells.lookup x = some c ∧ h.IsCell c (some u))
structure Cx.Ok (X : Cx) : Prop where
  mod : Mod X.K X.mg X.base
  kind : X.env.scope.kind = .function
  glob : X.env.globals = mainGlobals
  blt : X.env.builtins = builtinsNs
  above : X.s₀.heap.objs.size ≤ X.env.locals
  inj : ∀ x y c, X.env.cells.lookup x = some c → X.env.cells.lookup y = some c → x = y
  has : ∀ x, (X.env.kindOf x = some .cell ∨ X.env.kindOf x = some .free) → ∃ c, X.env.cells.lookup x = some c
  cab : ∀ x c, X.fn x = true → X.env.cells.lookup x = some c → X.s₀.heap.objs.size ≤ c
  hd : X.calm = true → X.A.handled = none
  frames : X.A.frames = some X.stack
  stk : X.stack = X.outer ∨ (X.stack = X.env :: X.outer ∧ X.env.frame = some X.env.locals)
  exf : ∀ b ∈ X.ex, b ≠ X.env.locals ∧ ∀ x c, X.env.cells.lookup x = some c → c ≠ b
  bs : ∀ b o, X.base.get? b = some o → X.s₀.heap.get? b = some o ∧ X.H₀ b = none
  bsz : X.base.objs.size ≤ X.s₀.heap.objs.size
  noex : ∀ b o, X.base.get? b = some o → b ∉ X.ex
  exfs : ∀ b ∈ X.ex, b ∉ X.fs
  funs : X.s₀.heap.FunFrames X.base X.outer
  frf : ∀ b ∈ X.fs, X.H₀ b = none
structure Inv (X : Cx) (pins : List (Addr × Obj)) (σ : List (Option V)) (H : Hp) (s : Shared) : Prop where
  ok : X.Ok
  os : s.os = X.s₀.os
  bare : AllBare s.gens
  base : Un X.fs X.ex X.H₀ H X.s₀.heap s.heap
  loc : ∃ m, s.heap.Ns X.env.locals m ∧ ∀ (i : Nat) (x : Str) (v : V), X.N[i]? = some x → σ[i]? = some (some v) → Vis X.env.scope x → ∃ u, RelV v u ∧ Look X.env s.heap m x u
  cell : ∀ x c, X.env.cells.lookup x = some c → ∃ v, s.heap.IsCell c v
  free : H X.env.locals = none
  freeC : ∀ x c, X.env.cells.lookup x = some c → H c = none
  pin : ∀ p ∈ X.pn ++ pins, s.heap.get? p.1 = some p.2 ∧ H p.1 = none ∧ p.1 ≠ X.env.locals ∧ p.1 ∉ X.fs ∧ ∀ v, p.2.data ≠ .cell v
  hok : HOk X.prog X.w H s.heap
  len : σ.length = X.N.length
section
variable {X : Cx} {pins : List (Addr × Obj)} {σ : List (Option V)} {H H' : Hp} {s : Shared} {h' : Heap}
theorem Cx.Ok.nofr (ok : X.Ok) {b : Addr} {o : Obj} (e : X.base.get? b = some o) : b ∉ X.fs := fun hb => by
  have := (ok.funs.mem hb).1
  rw [e] at this; cases this
theorem Inv.bs (I : Inv X pins σ H s) : ∀ b o, X.base.get? b = some o → s.heap.get? b = some o ∧ H b = none := fun b o e =>
  ⟨I.base.keep b o (I.ok.bs b o e).1 (I.ok.bs b o e).2 (I.ok.nofr e) (I.ok.noex b o e), I.base.free b o (I.ok.bs b o e).1 (I.ok.bs b o e).2 (I.ok.noex b o e)⟩
theorem Inv.bk (I : Inv X pins σ H s) : ∀ b o, X.base.get? b = some o → s.heap.get? b = some o := fun b o e => (I.bs b o e).1
theorem Inv.mod (I : Inv X pins σ H s) : Mod X.K X.mg X.base := I.ok.mod
theorem Inv.kIn (I : Inv X pins σ H s) : X.K.In s.heap := I.ok.mod.kin.keeps I.bk
theorem Inv.nolimit (I : Inv X pins σ H s) : s.heap.NoLimit := I.ok.mod.nolimit.keeps I.bk
theorem Inv.fr (I : Inv X pins σ H s) : ∃ m, Fr X.base X.env.locals s.heap m :=
  let ⟨m, hn, _⟩ := I.loc
  ⟨m, hn, I.bk, Nat.le_trans I.ok.bsz I.ok.above⟩
theorem Inv.lt (I : Inv X pins σ H s) : X.env.locals < s.heap.objs.size := let ⟨_, hn, _⟩ := I.loc; hn.lt
theorem Inv.sz (I : Inv X pins σ H s) : X.s₀.heap.objs.size ≤ s.heap.objs.size := Nat.le_trans I.ok.above (Nat.le_of_lt I.lt)
theorem Inv.nofs (I : Inv X pins σ H s) {a : Addr} (h : s.heap.objs.size ≤ a) : a ∉ X.fs := fun hb => by
  obtain ⟨_, o, ho, _⟩ := I.ok.funs.mem hb
  exact absurd (Nat.lt_of_lt_of_le (Heap.lt_size ho) (Nat.le_trans I.sz h)) (Nat.lt_irrefl _)
theorem Inv.cne (I : Inv X pins σ H s) : ∀ x c, X.env.cells.lookup x = some c → c ≠ X.env.locals := fun x c e z => by
  obtain ⟨v, o, ho, hd⟩ := I.cell x c e
  obtain ⟨m, ⟨o', es, ep, ho', hd', _⟩, _⟩ := I.loc
  rw [z, ho'] at ho; cases ho; rw [hd'] at hd; cases hd
theorem Inv.funs (I : Inv X pins σ H s) : s.heap.FunFrames X.base X.outer := by
  have all : ∀ (l : List Env), (∀ b ∈ frs l, b ∈ X.fs) → X.s₀.heap.FunFrames X.base l → s.heap.FunFrames X.base l := by
    intro l
    induction l with
    | nil => intro _ _; trivial
    | cons env r ih =>
      intro hs hl
      obtain ⟨hk, ⟨L, o, hf, hn, ho, hd⟩, hr⟩ := hl
      have hL : L ∈ X.fs := hs L (by unfold frs; rw [List.filterMap_cons, hf]; exact List.mem_cons_self)
      obtain ⟨sl, e⟩ := I.base.slot L o ho (I.ok.frf L hL) hL fun z => I.ok.exfs L z hL
      exact ⟨hk, ⟨L, _, hf, hn, e, hd⟩, ih (fun b hb => hs b (by unfold frs; rw [List.filterMap_cons, hf]; exact List.mem_cons_of_mem _ hb)) hr⟩
  exact all X.outer (fun _ hb => hb) I.ok.funs
theorem Inv.stack (I : Inv X pins σ H s) : s.heap.FunFrames X.base X.stack := by
  rcases I.ok.stk with e | ⟨e, hf⟩
  · rw [e]; exact I.funs
  · rw [e]
    obtain ⟨m, hn, _⟩ := I.loc
    refine .cons (by rw [I.ok.kind]; decide) hf hn ?_ I.funs
    exact Heap.get?_none_of_le (Nat.le_trans I.ok.bsz I.ok.above)
theorem Inv.stkSub (I : Inv X pins σ H s) : ∀ b ∈ frs X.stack, b ∈ X.env.locals :: X.fs := fun b hb => by
  rcases I.ok.stk with e | ⟨e, hf⟩
  · rw [e] at hb; exact List.mem_cons_of_mem _ hb
  · rw [e] at hb
    unfold frs at hb
    rw [List.filterMap_cons, hf] at hb
    exact hb
theorem Inv.stkFree (I : Inv X pins σ H s) : ∀ b ∈ frs X.stack, H b = none := fun b hb => by
  rcases List.mem_cons.mp (I.stkSub b hb) with e | hb
  · rw [e]; exact I.free
  · obtain ⟨_, o, ho, _⟩ := I.ok.funs.mem hb
    exact I.base.free b o ho (I.ok.frf b hb) fun z => I.ok.exfs b z hb
theorem Inv.step {g' : Array GenState} {t' : Nat} {d' : Drawn} {ch : List Addr} (I : Inv X pins σ H s)
    (hch : ∀ b ∈ ch, (b ∈ X.ex ∨ X.s₀.heap.objs.size ≤ b) ∧ b ≠ X.env.locals ∧ (∀ x c, X.env.cells.lookup x = some c → c ≠ b) ∧ ∀ p ∈ X.pn ++ pins, p.1 ≠ b)
    (keep : ∀ b o, b ≠ X.env.locals → b ∉ X.fs → b ∉ ch → s.heap.get? b = some o → H b = none → h'.get? b = some o)
    (slot : ∀ b o, b ≠ X.env.locals → b ∈ X.fs → b ∉ ch → s.heap.get? b = some o → H b = none → ∃ sl, h'.get? b = some { o with slots := sl }) (free : ∀ b o, b ∉ ch → s.heap.get? b = some o → H b = none → H' b = none)
    (there : ∀ b o, b ∉ ch → s.heap.get? b = some o → ∃ o', h'.get? b = some o')
    (tups : ∀ b xs, H b = some (.tup xs) → H' b = some (.tup xs)) (frzs : ∀ b o u, H b = some (.frz o u) → H' b = some (.frz o u)) (tbls : ∀ b ps, H b = some (.tbl ps) → ∃ more, H' b = some (.tbl (ps ++ more)))
    (ns : ∀ m, s.heap.Ns X.env.locals m → h'.Ns X.env.locals m) (hok : HOk X.prog X.w H' h') (hg : AllBare g') :
    Inv X pins σ H' { s with heap := h', gens := g', drawn := d', toks := t' } := by
  have neL : ∀ b o, X.s₀.heap.get? b = some o → b ≠ X.env.locals := fun b o e => Nat.ne_of_lt (Nat.lt_of_lt_of_le (Heap.lt_size e) I.ok.above)
  have neC : ∀ b o, X.s₀.heap.get? b = some o → b ∉ X.ex → b ∉ ch := fun b o e hx hb => by
    rcases (hch b hb).1 with z | z
    · exact hx z
    · exact absurd (Nat.lt_of_lt_of_le (Heap.lt_size e) z) (Nat.lt_irrefl _)
  have cellK : ∀ x c, X.env.cells.lookup x = some c → ∀ v, s.heap.IsCell c v → h'.IsCell c v := fun x c e v ⟨o, ho, hd⟩ => by
    have nch : c ∉ ch := fun z => (hch c z).2.2.1 x c e rfl
    by_cases hc : c ∈ X.fs
    · obtain ⟨sl, q⟩ := slot c o (I.cne x c e) hc nch ho (I.freeC x c e)
      exact ⟨_, q, hd⟩
    · exact ⟨o, keep c o (I.cne x c e) hc nch ho (I.freeC x c e), hd⟩
  refine ⟨I.ok, I.os, hg, ⟨fun b o e n hb hx => ?_, fun b o e n hb hx => ?_, fun b o e n hx => ?_, fun b o e hx => ?_, fun b xs e => tups b xs (I.base.tups b xs e), fun b o xs e => frzs b o xs (I.base.frzs b o xs e), fun b ps e => ?_⟩, ?_, fun x c e => ?_, ?_, fun x c e => ?_, fun p hp => ?_, hok, I.len⟩
  · exact keep b o (neL b o e) hb (neC b o e hx) (I.base.keep b o e n hb hx) (I.base.free b o e n hx)
  · obtain ⟨sl, e1⟩ := I.base.slot b o e n hb hx
    obtain ⟨sl', e2⟩ := slot b _ (neL b o e) hb (neC b o e hx) e1 (I.base.free b o e n hx)
    exact ⟨sl', e2⟩
  · obtain ⟨o', e1⟩ := I.base.there b o e hx
    exact free b o' (neC b o e hx) e1 (I.base.free b o e n hx)
  · obtain ⟨o', e1⟩ := I.base.there b o e hx
    exact there b o' (neC b o e hx) e1
  · obtain ⟨m1, e1⟩ := I.base.tbls b ps e
    obtain ⟨m2, e2⟩ := tbls b _ e1
    exact ⟨m1 ++ m2, by rw [e2, Array.append_assoc]⟩
  · obtain ⟨m, hn, hl⟩ := I.loc
    refine ⟨m, ns m hn, fun i x v e1 e2 e3 => ?_⟩
    obtain ⟨u, r, l⟩ := hl i x v e1 e2 e3
    refine ⟨u, r, ?_⟩
    rcases l with l | ⟨k, c, e, z⟩
    · exact .inl l
    · exact .inr ⟨k, c, e, cellK x c e _ z⟩
  · obtain ⟨v, z⟩ := I.cell x c e
    exact ⟨v, cellK x c e v z⟩
  · obtain ⟨m, ⟨o, _, _, ho, _⟩, _⟩ := I.loc
    exact free _ o (fun z => (hch _ z).2.1 rfl) ho I.free
  · obtain ⟨v, o, ho, hd⟩ := I.cell x c e
    exact free c o (fun z => (hch c z).2.2.1 x c e rfl) ho (I.freeC x c e)
  · obtain ⟨e, n, ne, nf, d⟩ := I.pin p hp
    have nch : p.1 ∉ ch := fun z => (hch p.1 z).2.2.2 p hp rfl
    exact ⟨keep p.1 p.2 ne nf nch e n, free p.1 p.2 nch e n, ne, nf, d⟩
theorem Inv.un {t' : Nat} (I : Inv X pins σ H s) (u : Un X.fs [] H H' s.heap h') (hok : HOk X.prog X.w H' h') : Inv X pins σ H' { s with heap := h', toks := t' } := by
  obtain ⟨m, ⟨o, es, ep, ho, r⟩, _⟩ := id I.loc
  obtain ⟨sl, hL⟩ := u.any ho I.free (by simp)
  exact I.step (g' := s.gens) (d' := s.drawn) (ch := []) (fun _ z => nomatch z) (fun b o _ hb _ e n => u.keep b o e n hb (by simp)) (fun b o _ hb _ e n => u.slot b o e n hb (by simp)) (fun b o _ e n => u.free b o e n (by simp)) (fun b o _ e => u.there b o e (by simp)) u.tups u.frzs u.tbls (fun m' hm => by
    obtain ⟨o', es', ep', ho', r'⟩ := hm
    rw [ho] at ho'; cases ho'
    exact ⟨_, es', ep', hL, r'⟩) hok I.bare
theorem Inv.call {g' : Array GenState} {t' : Nat} {d' : Drawn} {ch : List Addr} (I : Inv X pins σ H s) (u : Un (frs X.stack) ch H H' s.heap h') (hok : HOk X.prog X.w H' h') (hg : AllBare g')
    (hch : ∀ b ∈ ch, (b ∈ X.ex ∨ X.s₀.heap.objs.size ≤ b) ∧ b ≠ X.env.locals ∧ (∀ x c, X.env.cells.lookup x = some c → c ≠ b) ∧ ∀ p ∈ X.pn ++ pins, p.1 ≠ b) :
    Inv X pins σ H' { s with heap := h', gens := g', drawn := d', toks := t' } := by
  obtain ⟨m, ⟨o, es, ep, ho, r⟩, _⟩ := id I.loc
  obtain ⟨sl, hL⟩ := u.any ho I.free fun z => (hch _ z).2.1 rfl
  exact I.step (ch := ch) hch (fun b o hL hb hc e n => u.keep b o e n (fun z => (List.mem_cons.mp (I.stkSub b z)).elim hL hb) hc) (fun b o _ _ hc e n => u.any e n hc) (fun b o hc e n => u.free b o e n hc) (fun b o hc e => u.there b o e hc) u.tups u.frzs u.tbls (fun m' hm => by
    obtain ⟨o', es', ep', ho', r'⟩ := hm
    rw [ho] at ho'; cases ho'
    exact ⟨_, es', ep', hL, r'⟩) hok hg
theorem Inv.turned {t' : Nat} {it : Addr} (I : Inv X pins σ H s) (k : ∀ b o, b ≠ it → s.heap.get? b = some o → h'.get? b = some o) (hn : H it = none) (hL : it ≠ X.env.locals)
    (h1 : it ∈ X.ex ∨ X.s₀.heap.objs.size ≤ it) (h2 : ∀ x c, X.env.cells.lookup x = some c → c ≠ it) (h3 : ∀ p ∈ X.pn ++ pins, p.1 ≠ it) : Inv X pins σ H { s with heap := h', toks := t' } := by
  have nit : ∀ b u, H b = some u → b ≠ it := fun b u e z => by rw [z, hn] at e; cases e
  refine I.step (g' := s.gens) (d' := s.drawn) (ch := [it]) (fun b hb => ?_) (fun b o _ _ hc e _ => k b o (fun z => hc (by simp [z])) e) (fun b o _ _ hc e _ => ⟨o.slots, k b o (fun z => hc (by simp [z])) e⟩) (fun _ _ _ _ n => n)
    (fun b o hc e => ⟨o, k b o (fun z => hc (by simp [z])) e⟩) (fun _ _ e => e) (fun _ _ _ e => e) (fun b ps e => ⟨#[], by rw [e]; simp⟩) (fun m hm => ?_) (fun b u e => ?_) I.bare
  · have e : b = it := by simpa using hb
    subst e
    exact ⟨h1, hL, h2, h3⟩
  · obtain ⟨o, es, ep, ho, r⟩ := hm
    exact ⟨o, es, ep, k _ o (Ne.symm hL) ho, r⟩
  · refine (I.hok b u e).stay (fun c v hc q => k c v ?_ q) (fun _ q => q) fun _ _ q => q
    rcases hc with z | z
    · rw [z]; exact nit b u e
    · exact nit c _ z
theorem Inv.tok (I : Inv X pins σ H s) (t : Nat) : Inv X pins σ H { s with toks := t } := I.un (h' := s.heap) (t' := t) Un.refl I.hok
theorem Inv.kept {t' : Nat} (I : Inv X pins σ H s) (k : ∀ b u, s.heap.get? b = some u → h'.get? b = some u) : Inv X pins σ H { s with heap := h', toks := t' } := I.un (Un.kept k) (I.hok.kept k)
theorem Inv.laid {a : Addr} {o : HO} {t' : Nat} (I : Inv X pins σ H s) (k : ∀ b u, s.heap.get? b = some u → h'.get? b = some u) (hp : s.heap.objs.size ≤ a) (new : ObjOk X.prog X.w (upd H a o) h' a o) :
    Inv X pins σ (upd H a o) { s with heap := h', toks := t' } := I.un (Un.laid k hp (I.hok.fresh hp)) (I.hok.laid k hp new)
theorem Inv.write {x e : Addr} {o : HO} {t' : Nat} (I : Inv X pins σ H s) (mu : Mut (H x)) (he : e = x ∨ H e = some (.own x)) (k : ∀ b u, b ≠ e → s.heap.get? b = some u → h'.get? b = some u) (heo : ∃ u, h'.get? e = some u)
    (new : ObjOk X.prog X.w (upd H x o) h' x o) : Inv X pins σ (upd H x o) { s with heap := h', toks := t' } := I.un (Un.write mu he k heo) (I.hok.write mu he k heo new)
theorem Inv.pins_of {pins' : List (Addr × Obj)} (I : Inv X pins σ H s) (h : ∀ p ∈ pins', s.heap.get? p.1 = some p.2 ∧ H p.1 = none ∧ p.1 ≠ X.env.locals ∧ p.1 ∉ X.fs ∧ ∀ v, p.2.data ≠ .cell v) : Inv X pins' σ H s :=
  ⟨I.ok, I.os, I.bare, I.base, I.loc, I.cell, I.free, I.freeC, fun p hp => (List.mem_append.mp hp).elim (fun z => I.pin p (List.mem_append_left _ z)) (h p), I.hok, I.len⟩
theorem nodup_ix {N : List Str} (hN : N.Nodup) {i j : Nat} {x : Str} (a : N[i]? = some x) (b : N[j]? = some x) : i = j := by
  obtain ⟨h1, e1⟩ := List.getElem?_eq_some_iff.mp a
  obtain ⟨h2, e2⟩ := List.getElem?_eq_some_iff.mp b
  exact (List.getElem_inj hN).mp (e1.trans e2.symm)
theorem store_ok2 {M : Model} {A : Around} {E : Value → Shared → Prop} {i : Nat} {x : Str} {v : V} {u : Value} {Q : Unit → Shared → Prop} (I : Inv X pins σ H s) (hN : X.N.Nodup) (hi : X.N[i]? = some x) (hx : Loc X.env.scope x) (r : RelV v u)
    (h : ∀ s', Inv X pins (σ.set i (some v)) H s' → (∃ a, Heap.SameBut a s.heap s'.heap ∧ (a = X.env.locals ∨ X.env.cells.lookup x = some a)) → Q () s') (hf : X.fn x = true ∨ X.env.scope.names.lookup x = some .local := by first | exact .inl rfl | exact .inr rfl | assumption) : wpAny M A (storeName X.env x u) Q E s := by
  obtain ⟨m, hn, hl⟩ := id I.loc
  have hcls : (X.env.scope.kind == .class || (X.env.scope.kind == .module && X.env.locals != X.env.globals)) = false := by rw [I.ok.kind]; rfl
  have hiσ : i < σ.length := by rw [I.len]; exact (List.getElem?_eq_some_iff.mp hi).1
  have cne := I.cne
  have tracked : ∀ {a : Addr} {h' : Heap}, (∃ o, s.heap.get? a = some o ∧ H a = none) → Heap.SameBut a s.heap h' → HOk X.prog X.w H h' := fun {a h'} ha hs b ob e => by
    obtain ⟨_, _, hfree⟩ := ha
    refine (I.hok b ob e).stay (fun c w' hc q => (hs.2 c ?_).trans q) (fun _ q => q) fun _ _ q => q
    rintro rfl
    rcases hc with rfl | hc
    · rw [hfree] at e; cases e
    · rw [hfree] at hc; cases hc
  rcases hx with hk | hk
  · refine wpAny_storeName_local hk hn (fun h' hn' hs => ?_) hcls
    obtain ⟨oL, _, _, hoL, _⟩ := id hn
    refine h _ ⟨I.ok, I.os, I.bare, ⟨fun b o e n hb hx => ?_, fun b o e n hb hx => ?_, I.base.free, fun b o e hx => ?_, I.base.tups, I.base.frzs, I.base.tbls⟩, ⟨_, hn', fun j y v' e1 e2 e3 => ?_⟩, fun y c e => ?_, I.free, I.freeC, fun p hp => ?_, tracked ⟨oL, hoL, I.free⟩ hs, by simpa using I.len⟩ ⟨_, hs, .inl rfl⟩
    · exact (hs.2 b (Nat.ne_of_lt (Nat.lt_of_lt_of_le (Heap.lt_size e) I.ok.above))).trans (I.base.keep b o e n hb hx)
    · obtain ⟨sl, e1⟩ := I.base.slot b o e n hb hx
      exact ⟨sl, (hs.2 b (Nat.ne_of_lt (Nat.lt_of_lt_of_le (Heap.lt_size e) I.ok.above))).trans e1⟩
    · obtain ⟨o', e1⟩ := I.base.there b o e hx
      exact ⟨o', (hs.2 b (Nat.ne_of_lt (Nat.lt_of_lt_of_le (Heap.lt_size e) I.ok.above))).trans e1⟩
    · by_cases hj : j = i
      · subst hj
        rw [hi] at e1; cases e1
        rw [List.getElem?_set_self hiσ] at e2
        cases e2
        exact ⟨u, r, .inl ⟨hk, by simp⟩⟩
      · rw [List.getElem?_set_ne (Ne.symm hj)] at e2
        obtain ⟨u', r', q⟩ := hl j y v' e1 e2 e3
        refine ⟨u', r', ?_⟩
        rcases q with ⟨k, e⟩ | ⟨k, c, e, z⟩
        · refine .inl ⟨k, ?_⟩
          have : y ≠ x := fun e => hj (nodup_ix hN e1 (e ▸ hi))
          simp [this, e]
        · exact .inr ⟨k, c, e, z.sameBut hs (cne y c e)⟩
    · obtain ⟨w', z⟩ := I.cell y c e
      exact ⟨w', z.sameBut hs (cne y c e)⟩
    · obtain ⟨e, n, ne, nf, d⟩ := I.pin p hp
      exact ⟨(hs.2 p.1 ne).trans e, n, ne, nf, d⟩
  · have hfn : X.fn x = true := by
      rcases hf with z | z
      · exact z
      · rw [z] at hk; cases hk
    obtain ⟨c, hc⟩ := I.ok.has x (.inl hk)
    obtain ⟨w', z⟩ := I.cell x c hc
    refine wpAny_storeName_cell I.ok.kind hk hc z (fun h' hc' hs => ?_)
    obtain ⟨oc, hoc, hocd⟩ := id z
    refine h { s with heap := h' } ⟨I.ok, I.os, I.bare, ⟨fun b o e n hb hx => ?_, fun b o e n hb hx => ?_, I.base.free, fun b o e hx => ?_, I.base.tups, I.base.frzs, I.base.tbls⟩, ⟨m, hn.sameBut hs (Ne.symm (cne x c hc)), fun j y v' e1 e2 e3 => ?_⟩, fun y c' e => ?_, I.free, I.freeC, fun p hp => ?_, tracked ⟨oc, hoc, I.freeC x c hc⟩ hs, by simpa using I.len⟩ ⟨c, hs, .inr hc⟩
    · exact (hs.2 b (Nat.ne_of_lt (Nat.lt_of_lt_of_le (Heap.lt_size e) (I.ok.cab x c hfn hc)))).trans (I.base.keep b o e n hb hx)
    · obtain ⟨sl, e1⟩ := I.base.slot b o e n hb hx
      exact ⟨sl, (hs.2 b (Nat.ne_of_lt (Nat.lt_of_lt_of_le (Heap.lt_size e) (I.ok.cab x c hfn hc)))).trans e1⟩
    · obtain ⟨o', e1⟩ := I.base.there b o e hx
      exact ⟨o', (hs.2 b (Nat.ne_of_lt (Nat.lt_of_lt_of_le (Heap.lt_size e) (I.ok.cab x c hfn hc)))).trans e1⟩
    · by_cases hj : j = i
      · subst hj
        rw [hi] at e1; cases e1
        rw [List.getElem?_set_self hiσ] at e2
        cases e2
        exact ⟨u, r, .inr ⟨.inl hk, c, hc, hc'⟩⟩
      · rw [List.getElem?_set_ne (Ne.symm hj)] at e2
        obtain ⟨u', r', q⟩ := hl j y v' e1 e2 e3
        refine ⟨u', r', ?_⟩
        rcases q with q | ⟨k, c', e, z'⟩
        · exact .inl q
        · refine .inr ⟨k, c', e, z'.sameBut hs ?_⟩
          rintro rfl
          exact hj (nodup_ix hN e1 (I.ok.inj _ _ _ e hc ▸ hi))
    · by_cases hcc : c' = c
      · subst hcc; exact ⟨_, hc'⟩
      · obtain ⟨w2, z2⟩ := I.cell y c' e
        exact ⟨w2, z2.sameBut hs hcc⟩
    · obtain ⟨e, n, ne, nf, d⟩ := I.pin p hp
      refine ⟨(hs.2 p.1 ?_).trans e, n, ne, nf, d⟩
      intro q
      rw [q, hoc] at e
      have q' : oc = p.2 := Option.some.inj e
      exact d w' (by rw [← q']; exact hocd)
theorem store_ok {M : Model} {A : Around} {E : Value → Shared → Prop} {i : Nat} {x : Str} {v : V} {u : Value} {Q : Unit → Shared → Prop} (I : Inv X pins σ H s) (hN : X.N.Nodup) (hi : X.N[i]? = some x) (hx : Loc X.env.scope x) (r : RelV v u)
    (h : ∀ s', Inv X pins (σ.set i (some v)) H s' → Q () s') (hf : X.fn x = true ∨ X.env.scope.names.lookup x = some .local := by first | exact .inl rfl | exact .inr rfl | assumption) : wpAny M A (storeName X.env x u) Q E s :=
  store_ok2 I hN hi hx r (fun s' I' _ => h s' I') hf
theorem Inv.call' {s' : Shared} {ch : List Addr} (I : Inv X pins σ H s) (ho : s'.os = s.os) (u : Un (frs X.stack) ch H H' s.heap s'.heap) (hok : HOk X.prog X.w H' s'.heap) (hg : AllBare s'.gens)
    (hch : ∀ b ∈ ch, (b ∈ X.ex ∨ X.s₀.heap.objs.size ≤ b) ∧ b ≠ X.env.locals ∧ (∀ x c, X.env.cells.lookup x = some c → c ≠ b) ∧ ∀ p ∈ X.pn ++ pins, p.1 ≠ b) : Inv X pins σ H' s' := by
  obtain ⟨h', g', d', t', o'⟩ := s'
  have e : o' = s.os := ho
  subst e
  exact I.call (g' := g') (t' := t') (d' := d') u hok hg hch
end
abbrev XK := Value → Option Addr → Hp → Prop
abbrev St := List (Option V)
abbrev VK := V → Hp → Prop
abbrev TE := St → Hp → VK → Prop
abbrev TT := St → Hp → (Bool → Hp → Prop) → Prop
abbrev TA := St → Hp → (List V → Hp → Prop) → Prop
structure Ends where
  nx : St → Hp → Prop
  rt : VK
  bk : St → Hp → Prop := fun _ _ => False
  ct : St → Hp → Prop := fun _ _ => False
abbrev TS := Ends → St → Hp → Prop
def EP (X : Cx) (pins : List (Addr × Obj)) (σ : St) (Q : VK) (u : Value) (s' : Shared) : Prop := ∃ v H', Inv X pins σ H' s' ∧ RelV v u ∧ Q v H'
def TP (X : Cx) (pins : List (Addr × Obj)) (σ : St) (Q : Bool → Hp → Prop) (b : Bool) (s' : Shared) : Prop := ∃ H', Inv X pins σ H' s' ∧ Q b H'
def AP (X : Cx) (pins : List (Addr × Obj)) (σ : St) (Q : List V → Hp → Prop) (us : List Value) (s' : Shared) : Prop := ∃ vs H', Inv X pins σ H' s' ∧ Vals vs us ∧ Q vs H'
def SP (X : Cx) (pins : List (Addr × Obj)) (D : Ends) (f : Flow) (s' : Shared) : Prop :=
  match f with
  | .next => ∃ σ' H', Inv X pins σ' H' s' ∧ D.nx σ' H'
  | .brk => ∃ σ' H', Inv X pins σ' H' s' ∧ D.bk σ' H'
  | .cont => ∃ σ' H', Inv X pins σ' H' s' ∧ D.ct σ' H'
  | .ret u => ∃ v σ' H', Inv X pins σ' H' s' ∧ RelV v u ∧ D.rt v H'
def PE (X : Cx) (e : Expr) (t : TE) : Prop :=
  ∀ (pins : List (Addr × Obj)) (s : Shared) (σ : St) (H : Hp) (Q : VK), Inv X pins σ H s → t σ H Q → wpAny (model X.prog X.w) X.A (eval e X.env) (EP X pins σ Q) X.xe s
def PT (X : Cx) (e : Expr) (t : TT) : Prop :=
  ∀ (pins : List (Addr × Obj)) (s : Shared) (σ : St) (H : Hp) (Q : Bool → Hp → Prop), Inv X pins σ H s → t σ H Q → wpAny (model X.prog X.w) X.A (isTrue e X.env (eval e X.env)) (TP X pins σ Q) X.xe s
def PW (X : Cx) (e : Expr) (t : TT) : Prop :=
  ∀ (whole : Sem Value) (pins : List (Addr × Obj)) (s : Shared) (σ : St) (H : Hp) (Q : Bool → Hp → Prop), Inv X pins σ H s → t σ H Q → wpAny (model X.prog X.w) X.A (isTrue e X.env whole) (TP X pins σ Q) X.xe s
theorem PW.pt {X : Cx} {e : Expr} {t : TT} (h : PW X e t) : PT X e t := h _
def PA (X : Cx) (es : List Expr) (t : TA) : Prop :=
  ∀ (pos : Pos) (pins : List (Addr × Obj)) (s : Shared) (σ : St) (H : Hp) (Q : List V → Hp → Prop), Inv X pins σ H s → t σ H Q → wpAny (model X.prog X.w) X.A (spliced (backTo pos (starEach es X.env))) (AP X pins σ Q) X.xe s
def PS (X : Cx) (st : Stmt) (t : TS) : Prop :=
  ∀ (pins : List (Addr × Obj)) (s : Shared) (σ : St) (H : Hp) (D : Ends), Inv X pins σ H s → t D σ H → wpAny (model X.prog X.w) X.A (exec st X.env) (SP X pins D) X.xe s
def PSs (X : Cx) (st : List Stmt) (t : TS) : Prop :=
  ∀ (pins : List (Addr × Obj)) (s : Shared) (σ : St) (H : Hp) (D : Ends), Inv X pins σ H s → t D σ H → wpAny (model X.prog X.w) X.A (execs st X.env) (SP X pins D) X.xe s
theorem thn {α : Type} {t : Sem α} {Q Q' : α → Shared → Prop} {M : Model} {A : Around} {E : Value → Shared → Prop} {s : Shared} (h : wpAny M A t Q E s) (hQ : ∀ a s, Q a s → Q' a s) : wpAny M A t Q' E s := wpAny_mono h hQ fun _ _ x => x
end L2
namespace L2
open PySem PySem.Spec PyProof.Rows
section
variable {X : Cx}
theorem bin {a b : Expr} {ta tb : TE} (ha : PE X a ta) (hb : PE X b tb) {pins : List (Addr × Obj)} {s : Shared} {σ : St} {H : Hp} {R : V → V → Hp → Prop} (I : Inv X pins σ H s) (h : ta σ H fun x H1 => tb σ H1 fun y H2 => R x y H2)
    {α : Type} {Q : α → Shared → Prop} {f : Value → Value → Sem α}
    (hf : ∀ v u s2 x y H2, Inv X pins σ H2 s2 → RelV x v → RelV y u → R x y H2 → wpAny (model X.prog X.w) X.A (f v u) Q X.xe s2) :
    wpAny (model X.prog X.w) X.A (eval a X.env) (fun v s₁ => wpAny (model X.prog X.w) X.A (eval b X.env) (fun u s₂ => wpAny (model X.prog X.w) X.A (f v u) Q X.xe s₂) X.xe s₁) X.xe s := by
  refine thn (ha pins s σ H _ I h) fun v s1 ⟨x, H1, I1, r1, q1⟩ => ?_
  refine thn (hb pins s1 σ H1 _ I1 q1) fun u s2 ⟨y, H2, I2, r2, q2⟩ => ?_
  exact hf v u s2 x y H2 I2 r1 r2 q2
inductive XVar (o : Option (Option V)) (R : V → Prop) : Prop
  | mk (v : V) (e : o = some (some v)) (q : R v) : XVar o R
inductive XB (x : V) (R : Bool → Prop) : Prop
  | mk (c : Bool) (e : x = .bl c) (q : R c) : XB x R
inductive XI1 (x : V) (R : Int → Prop) : Prop
  | mk (i : Int) (e : x = .int i) (q : R i) : XI1 x R
inductive XI0 (x y : V) (R : Int → Int → Prop) : Prop
  | mk (i j : Int) (e : x = .int i) (e2 : y = .int j) (q : R i j) : XI0 x y R
inductive XI2 (x y : V) (C : Int → Int → Prop) (R : Int → Int → Prop) : Prop
  | mk (i j : Int) (e : x = .int i) (e2 : y = .int j) (c : C i j) (q : R i j) : XI2 x y C R
inductive XCons (vs : List V) (R : V → List V → Prop) : Prop
  | mk (v : V) (r : List V) (e : vs = v :: r) (q : R v r) : XCons vs R
inductive XTup (v : V) (S : Addr → List V → Prop) (n : Nat) (R : List V → Prop) : Prop
  | mk (a : Addr) (xs : List V) (e : v = .ref a) (s : S a xs) (l : xs.length = n) (q : R xs) : XTup v S n R
inductive XIt (x : V) (S : Addr → Prop) (R : Addr → Prop) : Prop
  | mk (a : Addr) (e : x = .ref a) (s : S a) (q : R a) : XIt x S R
inductive XSq (x : V) (S : Addr → List V → Prop) (R : List V → Prop) : Prop
  | mk (a : Addr) (xs : List V) (e : x = .ref a) (s : S a xs) (q : R xs) : XSq x S R
inductive XC2 (S : Addr → List V → Prop) (x y : V) (R : List V → List V → Prop) : Prop
  | mk (a b : Addr) (xs ys : List V) (e : x = .ref a) (e2 : y = .ref b) (s : S a xs) (s2 : S b ys) (z : xs.length + ys.length ≤ sizeLine) (q : R xs ys) : XC2 S x y R
inductive XRg (vs : List V) (R : Int → Prop) : Prop
  | mk (j : Int) (e : vs = [.int j]) (l : -(2 ^ 62) ≤ j) (u : j < 2 ^ 62) (q : R j) : XRg vs R
inductive XEn (vs : List V) (S : Addr → List V → Prop) (R : Addr → Prop) : Prop
  | mk (a : Addr) (xs : List V) (e : vs = [.ref a]) (s : S a xs) (q : R a) : XEn vs S R
inductive XLen (xs : List V) (S : Addr → List V → Prop) (R : List V → Prop) : Prop
  | mk (p : Addr) (ys : List V) (e : xs = [.ref p]) (s : S p ys) (q : R ys) : XLen xs S R
def tVar (i : Nat) : TE := fun σ H Q => XVar σ[i]? fun v => Q v H
def tC (v : V) : TE := fun _ H Q => Q v H
theorem pe_var {i : Nat} {x : Str} {pos : Pos} (hN : X.N[i]? = some x) (hv : Vis X.env.scope x) (hd : (x == ("__debug__" : Str)) = false := by decide) (hcd : (x == ("__classdict__" : Str)) = false := by decide) : PE X (.Name x pos) (tVar i) := by
  intro pins s σ H Q I h
  obtain ⟨v, e, h⟩ := h
  obtain ⟨m, hn, hl⟩ := I.loc
  obtain ⟨u, r, l⟩ := hl i x v hN e hv
  have fin : EP X pins σ Q u s := ⟨v, H, I, r, h⟩
  rcases l with ⟨hk, hm⟩ | ⟨hk, c, hc, hcell⟩
  · exact wpAny_Name (wpAny_loadName_local I.ok.kind hk hn hm fin) hd
  · rcases hk with hk | hk
    · exact wpAny_Name (wpAny_loadName_cell I.ok.kind hk hc hcell fin) hd
    · exact wpAny_Name (wpAny_loadName_free I.ok.kind hk hc hcell fin hcd) hd
theorem pe_int {i j pos} : PE X (.Constant (.int i) j pos) (tC (.int i)) := fun _ _ _ H _ I h => wpAny_Constant_int ⟨.int i, H, I.tok _, ⟨_, rfl⟩, h⟩
theorem pe_bl {b j pos} : PE X (.Constant (.bool b) j pos) (tC (.bl b)) := fun _ _ _ H _ I h => Constant_bool ⟨.bl b, H, I, rfl, h⟩
theorem pe_str {x j pos} : PE X (.Constant (.str x) j pos) (tC (.str x)) := fun _ _ _ H _ I h => Calls.Constant_str ⟨.str x, H, I.tok _, ⟨_, rfl⟩, h⟩
def Gl (X : Cx) (x : Str) : Prop := X.env.kindOf x = some .globalImplicit
theorem ld_glob {E : Value → Shared → Prop} {pins : List (Addr × Obj)} {s : Shared} {σ : St} {H : Hp} {x : Str} {u : Value} {pos : Pos} {Q : Value → Shared → Prop} (I : Inv X pins σ H s) (hg : Gl X x) (hm : X.mg x = some u) (h : Q u s)
    (hd : (x == ("__debug__" : Str)) = false := by decide) : wpAny (model X.prog X.w) X.A (eval (.Name x pos) X.env) Q E s :=
  Calls.Name_function_global I.ok.kind hg (Calls.loadGlobal_global (by rw [I.ok.glob]; exact I.mod.glob.keeps I.bk) hm h) hd
theorem ld_blt {E : Value → Shared → Prop} {pins : List (Addr × Obj)} {s : Shared} {σ : St} {H : Hp} {x : Str} {u : Value} {pos : Pos} {Q : Value → Shared → Prop} (I : Inv X pins σ H s) (hg : Gl X x) (hm : X.mg x = none) (hv : bootBuiltins x = some u) (h : Q u s)
    (hn : x ≠ "__name__" := by decide) (hd : (x == ("__debug__" : Str)) = false := by decide) : wpAny (model X.prog X.w) X.A (eval (.Name x pos) X.env) Q E s := by
  obtain ⟨mb, h1, h2⟩ := I.mod.blt
  exact Calls.Name_function_global I.ok.kind hg (Calls.loadGlobal_builtin (by rw [I.ok.glob]; exact I.mod.glob.keeps I.bk) hm (by rw [I.ok.blt]; exact h1.keeps I.bk) ((h2 x hn).trans hv) h) hd
theorem pe_bltn {x : Str} {v : V} {u : Value} {pos : Pos} (hg : Gl X x) (hm : X.mg x = none) (hv : bootBuiltins x = some u) (r : RelV v u) (hn : x ≠ "__name__" := by decide) (hd : (x == ("__debug__" : Str)) = false := by decide) : PE X (.Name x pos) (tC v) :=
  fun _ _ _ H _ I h => ld_blt I hg hm hv ⟨v, H, I, r, h⟩ hn hd
variable {a b : Expr} {ta tb : TE} {pos : Pos}
def PC (X : Cx) (op : CmpOp) (a b : Expr) (t : TE) : Prop :=
  ∀ (pins : List (Addr × Obj)) (s : Shared) (σ : St) (H : Hp) (Q : VK), Inv X pins σ H s → t σ H Q →
    wpAny (model X.prog X.w) X.A (eval a X.env) (fun v s₁ => wpAny (model X.prog X.w) X.A (eval b X.env) (fun u s₂ => wpAny (model X.prog X.w) X.A (compareOp op v u) (EP X pins σ Q) X.xe s₂) X.xe s₁) X.xe s
theorem nobehind (b : Expr) {op : CmpOp} (h : op ≠ .In) (h2 : op ≠ .NotIn) : behindInMarks op b = false := by
  have e1 : (op == CmpOp.In) = false := by cases op <;> first | rfl | exact absurd rfl h
  have e2 : (op == CmpOp.NotIn) = false := by cases op <;> first | rfl | exact absurd rfl h2
  cases b <;> simp [behindInMarks, e1, e2]
def tB (t : TE) : TT := fun σ H Q => t σ H fun x H1 => XB x fun c => Q c H1
theorem pt_cmp {op : CmpOp} {t : TE} (h : PC X op a b t) (h1 : behindInMarks op b = false := by first | exact nobehind _ (by decide) (by decide) | rfl) : PT X (.Compare a [op] [b] pos) (tB t) := by
  intro pins s σ H Q I hw
  refine wpAny_isTrue_Compare1 (thn (h pins s σ H _ I hw) fun v s1 h1 => thn h1 fun u s2 h2 => thn h2 fun c s3 ⟨x, H1, I1, r1, q1⟩ => ?_) h1
  obtain ⟨d, rfl, q⟩ := q1
  cases r1
  exact wpAny_truthy_bool ⟨H1, I1, q⟩
theorem pt_val {e : Expr} {t : TE} (h : PE X e t) (he : ∀ whole, isTrue e X.env whole = (do let v ← whole; standAt e.pos; holding [v] (truthy v)) := by intro _; rfl) : PT X e (tB t) := by
  intro pins s σ H Q I hw
  refine isTrue_plain (thn (h pins s σ H _ I hw) fun v s1 ⟨x, H1, I1, r1, q1⟩ => ?_) (he _)
  obtain ⟨d, rfl, q⟩ := q1
  cases r1
  exact wpAny_truthy_bool ⟨H1, I1, q⟩
variable {tA tB' : TT} {rest : List Expr}
def tAnd (t u : TT) : TT := fun σ H Q => t σ H fun c H1 => if c = true then u σ H1 Q else Q false H1
def tOr (t u : TT) : TT := fun σ H Q => t σ H fun c H1 => if c = true then Q true H1 else u σ H1 Q
def tNot (t : TT) : TT := fun σ H Q => t σ H fun c H1 => Q (!c) H1
theorem pw_and1 (ha : PT X a tA) : PW X (.BoolOp .And [a] pos) tA := by
  intro wh pins s σ H Q I h
  refine isTrue_and (thn (ha pins s σ H Q I h) fun c s1 e => ?_)
  cases c with
  | true => exact isTrue_and_nil e
  | false => exact e
theorem pw_or1 (ha : PT X a tA) : PW X (.BoolOp .Or [a] pos) tA := by
  intro wh pins s σ H Q I h
  refine isTrue_or (thn (ha pins s σ H Q I h) fun c s1 e => ?_)
  cases c with
  | false => exact isTrue_or_nil e
  | true => exact e
theorem pw_and (ha : PT X a tA) (hb : PW X (.BoolOp .And (b :: rest) pos) tB') : PW X (.BoolOp .And (a :: b :: rest) pos) (tAnd tA tB') := by
  intro wh pins s σ H Q I h
  refine isTrue_and (thn (ha pins s σ H _ I h) fun c s1 ⟨H1, I1, q1⟩ => ?_)
  cases c with
  | true => exact hb wh pins s1 σ H1 Q I1 q1
  | false => exact ⟨H1, I1, q1⟩
theorem pw_or (ha : PT X a tA) (hb : PW X (.BoolOp .Or (b :: rest) pos) tB') : PW X (.BoolOp .Or (a :: b :: rest) pos) (tOr tA tB') := by
  intro wh pins s σ H Q I h
  refine isTrue_or (thn (ha pins s σ H _ I h) fun c s1 ⟨H1, I1, q1⟩ => ?_)
  cases c with
  | true => exact ⟨H1, I1, q1⟩
  | false => exact hb wh pins s1 σ H1 Q I1 q1
theorem pt_not (ha : PT X a tA) : PT X (.UnaryOp .Not a pos) (tNot tA) := by
  intro pins s σ H Q I h
  exact isTrue_not (ha pins s σ H (fun c H1 => Q (!c) H1) I h)
def tAndV (ta tb : TE) : TE := fun σ H Q => ta σ H fun x H1 => XB x fun c => if c = true then tb σ H1 Q else Q (.bl false) H1
theorem pe_one {op} {t : TE} (h : PE X a t) : PE X (.BoolOp op [a] pos) t := fun pins s σ H Q I hw => BoolOp_one (h pins s σ H Q I hw)
theorem pe_and (ha : PE X a ta) (hb : PE X (.BoolOp .And (b :: rest) pos) tb) : PE X (.BoolOp .And (a :: b :: rest) pos) (tAndV ta tb) := by
  intro pins s σ H Q I h
  refine BoolOp_and (thn (ha pins s σ H _ I h) fun v s1 ⟨x, H1, I1, r1, q1⟩ => ?_)
  obtain ⟨c, rfl, q1⟩ := q1
  cases r1
  refine wpAny_truthy_bool ?_
  cases c with
  | true => exact hb pins s1 σ H1 Q I1 q1
  | false => exact ⟨.bl false, H1, I1, rfl, q1⟩
end
end L2
namespace L2
open PySem PySem.Spec PyProof.Rows
def SqL (K : PySem.W.Frag) (H : Hp) (a : Addr) (xs : List V) : Prop :=
  Rd H a (.lst xs) ∨
    ∃ (o : Obj) (its : Array Value) (n : Nat), K.lookup a = some o ∧ o.cls = .type "list" ∧ o.dict = none ∧ o.data = .seq its n ∧ its.size ≤ sizeLine ∧ Vals xs its.toList
def SqT (K : PySem.W.Frag) (H : Hp) (a : Addr) (xs : List V) : Prop :=
  Rd H a (.tup xs) ∨
    ∃ (o : Obj) (its : Array Value) (n : Nat), K.lookup a = some o ∧ o.cls = .type "tuple" ∧ o.data = .seq its n ∧ its.size ≤ sizeLine ∧ Vals xs its.toList
def absV : Value → Option V
  | .none => some .non
  | .bool b => some (.bl b)
  | .int i _ => some (.int i)
  | .str x _ => some (.str x)
  | .bytes b _ => some (.byt b)
  | .float b _ => some (.flt b)
  | .ref a => some (.ref a)
  | .type n => some (.ty n)
  | _ => none
theorem RelV.abs {x : V} {u : Value} (r : RelV x u) : absV u = some x := by
  cases x with
  | non => cases r; rfl
  | bl _ => cases r; rfl
  | int _ => obtain ⟨t, rfl⟩ := r; rfl
  | str _ => obtain ⟨t, rfl⟩ := r; rfl
  | byt _ => obtain ⟨t, rfl⟩ := r; rfl
  | flt _ => obtain ⟨t, rfl⟩ := r; rfl
  | ref _ => cases r; rfl
  | ty _ => cases r; rfl
theorem RelV.inj {x y : V} {u : Value} (r : RelV x u) (q : RelV y u) : x = y := Option.some.inj (r.abs.symm.trans q.abs)
theorem Vals.inj : ∀ {xs ys : List V} {us : List Value}, Vals xs us → Vals ys us → xs = ys
  | _, _, _, .nil, .nil => rfl
  | _, _, _, .cons r t, .cons r' t' => by rw [r.inj r', Vals.inj t t']
section
variable {X : Cx} {pins : List (Addr × Obj)} {σ : St} {H : Hp} {s : Shared} {a : Addr} {xs ys : List V}
theorem SqL.of {K : PySem.W.Frag} (h : H a = some (.lst xs)) : SqL K H a xs := .inl (.inl h)
theorem SqT.of {K : PySem.W.Frag} (h : H a = some (.tup xs)) : SqT K H a xs := .inl (.inl h)
theorem Inv.list (I : Inv X pins σ H s) (h : SqL X.K H a xs) : ∃ its : List Value, Vals xs its ∧ PlainL s.heap a its.toArray ∧ xs.length ≤ sizeLine := by
  rcases h with h | ⟨o, its, n, hk, hc, hd, hs, hz, r⟩
  · obtain ⟨z, its, n, r, e⟩ := h.ok I.hok
    exact ⟨its, r, ⟨_, n, e, rfl, rfl, rfl⟩, z⟩
  · refine ⟨its.toList, r, ⟨o, n, I.kIn a o hk, hc, hd, by simpa using hs⟩, ?_⟩
    have e := r.length
    simp only [Array.length_toList] at e
    omega
theorem Inv.tuple (I : Inv X pins σ H s) (h : SqT X.K H a xs) : ∃ its : List Value, Vals xs its ∧ IsTup s.heap a its.toArray ∧ xs.length ≤ sizeLine := by
  rcases h with h | ⟨o, its, n, hk, hc, hs, hz, r⟩
  · obtain ⟨z, its, r, p⟩ := h.ok I.hok
    exact ⟨its, r, p, z⟩
  · refine ⟨its.toList, r, ⟨o, I.kIn a o hk, hc, n, by simpa using hs⟩, ?_⟩
    have e := r.length
    simp only [Array.length_toList] at e
    omega
theorem Inv.list_inj (I : Inv X pins σ H s) (h : SqL X.K H a xs) (h' : SqL X.K H a ys) : xs = ys := by
  obtain ⟨its, r, ⟨o, n, e, _, _, d⟩, _⟩ := I.list h
  obtain ⟨its', r', ⟨o', n', e', _, _, d'⟩, _⟩ := I.list h'
  rw [e] at e'; cases e'
  rw [d] at d'
  injection d' with d1 _
  have : its = its' := by simpa using congrArg Array.toList d1
  subst this
  exact r.inj r'
end
abbrev Cx.wish (X : Cx) (E : Value → Shared → Prop) : Cx := { X with xe := E }
abbrev Cx.nox (X : Cx) : Cx := X.wish fun _ _ => False
theorem Cx.Ok.wish {X : Cx} (ok : X.Ok) (E : Value → Shared → Prop) : (X.wish E).Ok :=
  ⟨ok.mod, ok.kind, ok.glob, ok.blt, ok.above, ok.inj, ok.has, ok.cab, ok.hd, ok.frames, ok.stk, ok.exf, ok.bs, ok.bsz, ok.noex, ok.exfs, ok.funs, ok.frf⟩
theorem Cx.Ok.unwish {X : Cx} {E : Value → Shared → Prop} (ok : (X.wish E).Ok) : X.Ok :=
  ⟨ok.mod, ok.kind, ok.glob, ok.blt, ok.above, ok.inj, ok.has, ok.cab, ok.hd, ok.frames, ok.stk, ok.exf, ok.bs, ok.bsz, ok.noex, ok.exfs, ok.funs, ok.frf⟩
section
variable {X : Cx} {pins : List (Addr × Obj)} {σ : St} {H : Hp} {s : Shared} {E : Value → Shared → Prop}
theorem Inv.wish (I : Inv X pins σ H s) (E : Value → Shared → Prop) : Inv (X.wish E) pins σ H s := ⟨I.ok.wish E, I.os, I.bare, I.base, I.loc, I.cell, I.free, I.freeC, I.pin, I.hok, I.len⟩
theorem Inv.unwish (I : Inv (X.wish E) pins σ H s) : Inv X pins σ H s := ⟨I.ok.unwish, I.os, I.bare, I.base, I.loc, I.cell, I.free, I.freeC, I.pin, I.hok, I.len⟩
theorem SP.unwish {D : Ends} {f : Flow} {s' : Shared} (h : SP (X.wish E) pins D f s') : SP X pins D f s' := by
  cases f with
  | next => obtain ⟨σ', H', I, q⟩ := h; exact ⟨σ', H', I.unwish, q⟩
  | brk => obtain ⟨σ', H', I, q⟩ := h; exact ⟨σ', H', I.unwish, q⟩
  | cont => obtain ⟨σ', H', I, q⟩ := h; exact ⟨σ', H', I.unwish, q⟩
  | ret u => obtain ⟨v, σ', H', I, r, q⟩ := h; exact ⟨v, σ', H', I.unwish, r, q⟩
theorem PE.nox {e : Expr} {t : TE} (h : PE X.nox e t) : PE X e t := fun pins s σ H Q I hw =>
  wpAny_mono (h pins s σ H Q (I.wish _) hw) (fun _ _ ⟨v, H', I', r, q⟩ => ⟨v, H', I'.unwish, r, q⟩) fun _ _ z => False.elim z
theorem PT.nox {e : Expr} {t : TT} (h : PT X.nox e t) : PT X e t := fun pins s σ H Q I hw =>
  wpAny_mono (h pins s σ H Q (I.wish _) hw) (fun _ _ ⟨H', I', q⟩ => ⟨H', I'.unwish, q⟩) fun _ _ z => False.elim z
theorem PSs.nox {st : List Stmt} {t : TS} (h : PSs X.nox st t) : PSs X st t := fun pins s σ H D I hw =>
  wpAny_mono (h pins s σ H D (I.wish _) hw) (fun _ _ q => q.unwish) fun _ _ z => False.elim z
end
section
variable {X : Cx} {st : Stmt} {rest : List Stmt} {t u : TS} {e : Expr} {te : TE} {pos : Pos}
def tNext : TS := fun D σ H => D.nx σ H
def tSeq (t u : TS) : TS := fun D σ H => t { D with nx := u D } σ H
theorem pss_nil : PSs X [] tNext := fun _ _ σ H _ I h => wpAny_execs_nil ⟨σ, H, I, h⟩
theorem pss_cons (h1 : PS X st t) (h2 : PSs X rest u) : PSs X (st :: rest) (tSeq t u) := by
  intro pins s σ H D I h
  refine wpAny_execs_cons (thn (h1 pins s σ H { D with nx := u D } I h) fun f s1 q => ?_)
  cases f with
  | next =>
    obtain ⟨σ', H', I', q⟩ := q
    exact h2 pins s1 σ' H' D I' q
  | ret v => exact q
  | brk => exact q
  | cont => exact q
theorem pss_one (h1 : PS X st t) : PSs X [st] t := by
  intro pins s σ H D I h
  refine wpAny_execs_cons (thn (h1 pins s σ H D I h) fun f s1 q => ?_)
  cases f with
  | next => exact wpAny_execs_nil q
  | ret v => exact q
  | brk => exact q
  | cont => exact q
theorem Inv.quiet {pins : List (Addr × Obj)} {σ : St} {H : Hp} {s : Shared} (I : Inv X pins σ H s) : interactive X.env = false := by simp [interactive, I.ok.kind]
def tDrop (te : TE) : TS := fun D σ H => te σ H fun _ H1 => D.nx σ H1
theorem ps_expr (he : PE X e te) (hs : swapsWith e none pos.line X.env = pure false := by rfl) : PS X (.Expr e pos) (tDrop te) := by
  intro pins s σ H D I h
  exact wpAny_Expr_any (thn (he pins s σ H _ I h) fun v s1 ⟨x, H1, I1, r1, q1⟩ => ⟨σ, H1, I1, q1⟩) I.quiet hs
def tRet (te : TE) : TS := fun D σ H => te σ H D.rt
theorem ps_ret (he : PE X e te) : PS X (.Return (some e) pos) (tRet te) := by
  intro pins s σ H D I h
  exact wpAny_Return_some (thn (he pins s σ H _ I h) fun v s1 ⟨x, H1, I1, r1, q1⟩ => ⟨x, σ, H1, I1, r1, q1⟩)
def tIfS (c : TT) (t u : TS) : TS := fun D σ H => c σ H fun b H1 => if b = true then t D σ H1 else u D σ H1
theorem ps_if {c : Expr} {a b : List Stmt} {tc : TT} (hc : PT X c tc) (ha : PSs X a t) (hb : PSs X b u) : PS X (.If c a b pos) (tIfS tc t u) := by
  intro pins s σ H D I h
  refine wpAny_If (thn (hc pins s σ H _ I h) fun d s1 ⟨H1, I1, q1⟩ => ?_)
  cases d with
  | true => exact ha pins s1 σ H1 D I1 q1
  | false => exact hb pins s1 σ H1 D I1 q1
end
abbrev TG := V → St → Hp → (St → Hp → Prop) → Prop
abbrev TGs := List V → St → Hp → (St → Hp → Prop) → Prop
def PG (X : Cx) (target : Expr) (t : TG) : Prop :=
  ∀ (pins : List (Addr × Obj)) (s : Shared) (σ : St) (H : Hp) (v : V) (u : Value) (Q : St → Hp → Prop), Inv X pins σ H s → RelV v u → t v σ H Q →
    wpAny (model X.prog X.w) X.A (assign target X.env u) (fun _ s' => ∃ σ' H', Inv X pins σ' H' s' ∧ Q σ' H') X.xe s
def PGs (X : Cx) (ts : List Expr) (t : TGs) : Prop :=
  ∀ (pins : List (Addr × Obj)) (s : Shared) (σ : St) (H : Hp) (vs : List V) (us : List Value) (Q : St → Hp → Prop), Inv X pins σ H s → Vals vs us → t vs σ H Q →
    wpAny (model X.prog X.w) X.A (assignInOrder ((assignEach ts X.env).map (·.2)) us) (fun _ s' => ∃ σ' H', Inv X pins σ' H' s' ∧ Q σ' H') X.xe s
section
variable {X : Cx} {pos : Pos}
def gName (i : Nat) : TG := fun v σ H Q => Q (σ.set i (some v)) H
theorem pg_name {i : Nat} {x : Str} (hN : X.N.Nodup) (hi : X.N[i]? = some x) (hx : Loc X.env.scope x) (hf : X.fn x = true ∨ X.env.scope.names.lookup x = some .local := by first | exact .inl rfl | exact .inr rfl | assumption) : PG X (.Name x pos) (gName i) := by
  intro pins s σ H v u Q I r h
  exact wpAny_assign_Name (store_ok I hN hi hx r (fun s' I' => ⟨_, H, I', h⟩) hf)
def gNil : TGs := fun vs σ H Q => vs = [] ∧ Q σ H
def gCons (t : TG) (u : TGs) : TGs := fun vs σ H Q => XCons vs fun v r => t v σ H fun σ' H' => u r σ' H' Q
theorem pgs_nil : PGs X [] gNil := by
  intro pins s σ H vs us Q I r h
  obtain ⟨e, h⟩ := h
  subst e
  cases r
  exact assignInOrder_nil ⟨σ, H, I, h⟩
theorem pgs_cons {e : Expr} {es : List Expr} {t : TG} {u : TGs} (h1 : PG X e t) (h2 : PGs X es u)
    (hs : (assignEach (e :: es) X.env).map (·.2) = assign e X.env :: (assignEach es X.env).map (·.2) := by rfl) : PGs X (e :: es) (gCons t u) := by
  intro pins s σ H vs us Q I r h
  obtain ⟨v, vr, e1, h⟩ := h
  subst e1
  cases r with
  | cons r rr =>
    rw [hs]
    refine assignInOrder_cons (thn (h1 pins s σ H _ _ _ I r h) fun _ s1 ⟨σ1, H1, I1, q1⟩ => ?_)
    exact h2 pins s1 σ1 H1 _ _ Q I1 rr q1
def gTup (K : PySem.W.Frag) (n : Nat) (t : TGs) : TG := fun v σ H Q => XTup v (SqT K H) n fun xs => t xs σ H Q
theorem pg_tup {es : List Expr} {k : Nat} {t : TGs} {n : Nat} (hc : X.calm = true) (h : PGs X es t)
    (hn : (assignEach es X.env).length = n := by rfl) (hst : (assignEach es X.env).findIdx? (·.1) = none := by rfl) : PG X (.Tuple es k pos) (gTup X.K n t) := by
  intro pins s σ H v u Q I r hw
  obtain ⟨a, xs, e1, hq, hl, hw⟩ := hw
  subst e1
  cases r
  obtain ⟨its, rv, ht, hz⟩ := I.tuple hq
  refine assign_Tuple_tuple (I.ok.hd hc) ht (by simp [hn, ← hl, rv.length]) hst fun h' hx => ?_
  have I1 : Inv X pins σ H { s with heap := h' } := I.kept (t' := s.toks) fun b o e => hx b o (Nat.ne_of_lt (Heap.lt_size e)) e
  exact h pins _ σ H xs _ Q I1 (by simpa using rv) hw
def tAsg (te : TE) (g : TG) : TS := fun D σ H => te σ H fun x H1 => g x σ H1 D.nx
theorem ps_set {i : Nat} {x : Str} {e : Expr} {te : TE} {pos' : Pos} (hN : X.N.Nodup) (hi : X.N[i]? = some x) (hx : Loc X.env.scope x) (he : PE X e te) (hs : swapsWith e (some (.Name x pos')) pos.line X.env = pure false := by rfl) (hf : X.fn x = true ∨ X.env.scope.names.lookup x = some .local := by first | exact .inl rfl | exact .inr rfl | assumption) :
    PS X (.Assign [.Name x pos'] e pos) (tAsg te (gName i)) := by
  intro pins s σ H D I h
  refine wpAny_Assign_Name (thn (he pins s σ H _ I h) fun v s1 ⟨y, H1, I1, r1, q1⟩ => ?_) hs
  exact store_ok I1 hN hi hx r1 (fun s2 I2 => ⟨_, H1, I2, q1⟩) hf
end
section
variable {X : Cx} {pos : Pos}
end
structure It where
  go : Nat → Hp → Prop
  yld : Nat → Hp → V → Hp → Prop
  stop : Nat → Hp → Prop
def FpOk (X : Cx) (pins : List (Addr × Obj)) (H : Hp) (b : Addr) : Prop :=
  H b = none ∧ b ≠ X.env.locals ∧ b ∉ X.fs ∧ (b ∈ X.ex ∨ X.s₀.heap.objs.size ≤ b) ∧ (∀ x c, X.env.cells.lookup x = some c → c ≠ b) ∧ ∀ p ∈ X.pn ++ pins, p.1 ≠ b
theorem Inv.fpOk {X : Cx} {pins : List (Addr × Obj)} {σ : St} {H H' : Hp} {s : Shared} {b : Addr} (I : Inv X pins σ H s) (hb : s.heap.objs.size ≤ b) (hn : H' b = none) : FpOk X pins H' b := by
  refine ⟨hn, Nat.ne_of_gt (Nat.lt_of_lt_of_le I.lt hb), I.nofs hb, .inr (Nat.le_trans I.sz hb), fun x c e z => ?_, fun p hp z => ?_⟩
  · obtain ⟨v, q⟩ := I.cell x c e
    exact absurd (Nat.lt_of_lt_of_le q.lt (by rw [z]; exact hb)) (Nat.lt_irrefl _)
  · exact absurd (Nat.lt_of_lt_of_le (Heap.lt_size (I.pin p hp).1) (by rw [z]; exact hb)) (Nat.lt_irrefl _)
structure Turn (P : Program) (w : World) (K : PySem.W.Frag) (tg : Expr) (J : It) (fp : List Addr) (it : Addr) (tn : Nat → Heap → Prop) : Prop where
  mem : it ∈ fp
  obj : ∀ i h, tn i h → ∀ b ∈ fp, ∃ o, h.get? b = some o ∧ ∀ v, o.data ≠ .cell v
  keep : ∀ i h h', tn i h → (∀ b ∈ fp, ∀ o, h.get? b = some o → h'.get? b = some o) → tn i h'
  item : ∀ (X : Cx), X.prog = P → X.w = w → X.K = K → X.calm = true → ∀ (i : Nat) (pins : List (Addr × Obj)) (s : Shared) (σ : St) (H : Hp) (E : Value → Shared → Prop), Inv X pins σ H s → (∀ b ∈ fp, FpOk X pins H b) → tn i s.heap → J.go i H →
    wpAny (model P w) X.A (pyNext (.ref it)) (fun r s1 => ∃ u, r = some u ∧
      wpAny (model P w) X.A (letOwnedTupleGo tg (.ref it) u) (fun _ s2 => ∃ x H', Inv X pins σ H' s2 ∧ RelV x u ∧ J.yld i H x H' ∧ tn (i + 1) s2.heap ∧ ∀ b ∈ fp, H' b = none) E s1) E s
  done : ∀ (X : Cx), X.prog = P → X.w = w → X.K = K → X.calm = true → ∀ (i : Nat) (pins : List (Addr × Obj)) (s : Shared) (σ : St) (H : Hp) (E : Value → Shared → Prop), Inv X pins σ H s → (∀ b ∈ fp, FpOk X pins H b) → tn i s.heap → J.stop i H →
    wpAny (model P w) X.A (pyNext (.ref it)) (fun r s1 => r = none ∧ Inv X pins σ H s1) E s
  self : ∀ (A : Around) (i : Nat) (s : Shared) (Q : Value → Shared → Prop) (E : Value → Shared → Prop), tn i s.heap → Q (.ref it) s → wpAny (model P w) A (pyIter (.ref it)) Q E s
abbrev TI := St → Hp → (It → Hp → Prop) → Prop
def PIE (X : Cx) (pins : List (Addr × Obj)) (σ : St) (tg : Expr) (R : It → Hp → Prop) (itv : Value) (s2 : Shared) : Prop :=
  ∃ (it : Addr) (fp : List Addr) (tn : Nat → Heap → Prop) (J : It) (H' : Hp), itv = .ref it ∧ Inv X pins σ H' s2 ∧ Turn X.prog X.w X.K tg J fp it tn ∧ tn 0 s2.heap ∧ (∀ b ∈ fp, FpOk X pins H' b) ∧ R J H'
def PI (X : Cx) (tg iter : Expr) (wi : TI) : Prop :=
  ∀ (pins : List (Addr × Obj)) (s : Shared) (σ : St) (H : Hp) (R : It → Hp → Prop), Inv X pins σ H s → wi σ H R →
    wpAny (model X.prog X.w) X.A (eval iter X.env) (fun v s1 => wpAny (model X.prog X.w) X.A (pyIter v) (PIE X pins σ tg R) X.xe s1) X.xe s
theorem go_of {M : Model} {A : Around} {E : Value → Shared → Prop} {s : Shared} {tg : Expr} {it : Addr} {u : Value} {o : Obj} {n : String} {vs : Array Value} {Q : Unit → Shared → Prop} (ho : s.heap.get? it = some o) (hc : o.cls = .type n) (hd : o.data = .fields vs)
    (hn : ["enumerate", "zip", "dict_itemiterator", "dict_reverseitemiterator", "odict_iterator", "itertools.zip_longest", "itertools.pairwise"].contains n = false) (hQ : Q () s) : wpAny M A (letOwnedTupleGo tg (.ref it) u) Q E s := by
  unfold letOwnedTupleGo
  cases tg <;> first
    | exact wpAny_pure hQ
    | (cases u <;> first
        | exact wpAny_pure hQ
        | (refine wpAny_bind (wpAny_load ho ?_)
           rw [hc, hd]
           show wpAny M A (if (["enumerate", "zip", "dict_itemiterator", "dict_reverseitemiterator", "odict_iterator", "itertools.zip_longest", "itertools.pairwise"].contains n && vs[0]? == some (rawInt _)) = true then _ else _) Q E s
           rw [if_neg (by intro h; rw [hn, Bool.false_and] at h; cases h)]
           exact wpAny_pure hQ))
def Itl (K : PySem.W.Frag) (a : Addr) : It :=
  ⟨fun i H => ∃ xs x, SqL K H a xs ∧ xs[i]? = some x, fun i H x H' => H' = H ∧ ∀ xs, SqL K H a xs → xs[i]? = some x, fun i H => ∃ xs, SqL K H a xs ∧ xs.length ≤ i⟩
def Itr (lo : Int) (n : Nat) : It := ⟨fun i _ => i < n, fun i H x H' => H' = H ∧ x = .int (lo + i), fun i _ => n ≤ i⟩
theorem turn_list {P : Program} {w : World} {K : PySem.W.Frag} {tg : Expr} (a it : Addr) : Turn P w K tg (Itl K a) [it] it (fun i h => h.IsListIter it a i) where
  mem := by simp
  obj := fun i h st b hb => by
    have e : b = it := by simpa using hb
    subst e
    obtain ⟨o, e, c, d⟩ := st
    exact ⟨o, e, fun v z => by rw [d] at z; cases z⟩
  keep := fun i h h' st k => st.at fun o e => k it (by simp) o e
  item := by
    intro X hP hw hK hc i pins s σ H E I hf st hg
    subst hP hw hK
    obtain ⟨xs, x, hq, hx⟩ := hg
    obtain ⟨its, rv, p, hz⟩ := I.list hq
    obtain ⟨u, hu, ru⟩ := rv.get hx
    obtain ⟨f0, f1, f2, f3, f4, f5⟩ := hf it (by simp)
    refine wpAny_pyNext_list_item st p.isList (x := u) (by simpa using hu) fun h' st' sb => ?_
    have I1 : Inv X pins σ H { s with heap := h' } := I.turned (t' := s.toks) (fun b o hb e => (sb.2 b hb).trans e) f0 f1 f3 f4 f5
    obtain ⟨o, e, c, d⟩ := id st'
    exact ⟨u, rfl, go_of (s := { s with heap := h' }) e c d (by decide) ⟨x, H, I1, ru, ⟨rfl, fun ys hy => by rw [I.list_inj hy hq]; exact hx⟩, st', fun b hb => (hf b hb).1⟩⟩
  done := by
    intro X hP hw hK hc i pins s σ H E I hf st hg
    subst hP hw hK
    obtain ⟨xs, hq, hx⟩ := hg
    obtain ⟨its, rv, p, hz⟩ := I.list hq
    obtain ⟨f0, f1, f2, f3, f4, f5⟩ := hf it (by simp)
    have hl := rv.length
    exact wpAny_pyNext_list_end (I.ok.hd hc) st p.isList (by simp; omega) fun h' eb => ⟨rfl, I.turned (t' := s.toks) (fun b o hb e => eb b o hb e) f0 f1 f3 f4 f5⟩
  self := fun _ _ _ _ _ st h => wpAny_pyIter_listiter st h
theorem turn_range {P : Program} {w : World} {K : PySem.W.Frag} {tg : Expr} (it : Addr) (lo : Int) (n : Nat) : Turn P w K tg (Itr lo n) [it] it (fun i h => IsRangeIter h it (lo + (i : Nat) * 1) ((n : Int) - (i : Nat)) 1) where
  mem := by simp
  obj := fun i h st b hb => by
    have e : b = it := by simpa using hb
    subst e
    exact ⟨_, st, fun v z => by
      have z' : Data.fields _ = Data.cell v := z
      cases z'⟩
  keep := fun i h h' st k => k it (by simp) _ st
  item := by
    intro X hP hw hK hc i pins s σ H E I hf st hg
    subst hP hw hK
    obtain ⟨f0, f1, f2, f3, f4, f5⟩ := hf it (by simp)
    have W := Walks.range (prog := X.prog) (w := X.w) (I.ok.hd hc) it lo 1 n
    refine W.item i s _ _ hg st fun v h' tk hv st' kk => ?_
    obtain ⟨t, rfl⟩ := hv
    have I1 : Inv X pins σ H { s with heap := h', toks := tk } := I.turned (fun b o hb e => kk b o (by simpa using hb) e) f0 f1 f3 f4 f5
    refine ⟨_, rfl, go_of (s := { s with heap := h', toks := tk }) (n := "range_iterator") st' rfl rfl (by decide) ⟨.int (lo + i), H, I1, ⟨t, ?_⟩, ⟨rfl, rfl⟩, st', fun b hb => (hf b hb).1⟩⟩
    rw [Int.mul_one]
  done := by
    intro X hP hw hK hc i pins s σ H E I hf st hg
    subst hP hw hK
    obtain ⟨f0, f1, f2, f3, f4, f5⟩ := hf it (by simp)
    exact wpAny_pyNext_range_end (I.ok.hd hc) st (by have : n ≤ i := hg; omega) fun h' eb => ⟨rfl, I.turned (t' := s.toks) (fun b o hb e => eb b o hb e) f0 f1 f3 f4 f5⟩
  self := fun _ _ _ _ _ st h => wpAny_pyIter_rangeiter st h
end L2
namespace L2
open PySem PySem.Spec PyProof.Rows
section
variable {X : Cx} {tg : Expr}
def iList (K : PySem.W.Frag) (tl : TE) : TI := fun σ H R => tl σ H fun x H1 => XIt x (fun a => ∃ xs, SqL K H1 a xs) fun a => R (Itl K a) H1
theorem pi_list {l : Expr} {tl : TE} (hl : PE X l tl) : PI X tg l (iList X.K tl) := by
  intro pins s σ H R I h
  refine thn (hl pins s σ H _ I h) fun v s1 ⟨x, H1, I1, r1, q1⟩ => ?_
  obtain ⟨a, e, ⟨xs, hq⟩, q⟩ := q1
  subst e
  cases r1
  obtain ⟨its, rv, p, hz⟩ := I1.list hq
  refine wpAny_pyIter_list p.isList ?_
  refine ⟨s1.heap.objs.size, [s1.heap.objs.size], _, _, H1, rfl, I1.kept (t' := s1.toks) fun b o e => Heap.get?_push_of_some _ e, turn_list a _, ⟨_, Heap.get?_push_size _ rfl, rfl, rfl⟩, fun b hb => ?_, q⟩
  have e : b = s1.heap.objs.size := by simpa using hb
  subst e
  exact I1.fpOk (Nat.le_refl _) (I1.hok.fresh (Nat.le_refl _))
theorem range_it {pins : List (Addr × Obj)} {σ : St} {H : Hp} {s : Shared} {R : It → Hp → Prop} {E : Value → Shared → Prop} {lo hi : Int} {t u v : Tok} {tk : Nat} (I : Inv X pins σ H s) (h1 : -(2 ^ 62) ≤ lo) (h2 : lo < 2 ^ 62) (h3 : -(2 ^ 62) ≤ hi) (h4 : hi < 2 ^ 62)
    (q : R (Itr lo (hi - lo).toNat) H) : wpAny (model X.prog X.w) X.A (pyIter (.ref s.heap.objs.size)) (PIE X pins σ tg R) E { s with heap := s.heap.push { cls := .type "range", data := .fields #[.int lo t, .int hi u, .int 1 v] }, toks := tk } := by
  refine wpAny_pyIter_range (IsRange.new ..) (small_one h1 h2 h3 h4) ?_
  have I1 : Inv X pins σ H { s with heap := s.heap.push { cls := .type "range", data := .fields #[.int lo t, .int hi u, .int 1 v] }, toks := tk } := I.kept fun b o e => Heap.get?_push_of_some _ e
  refine ⟨(s.heap.push { cls := .type "range", data := .fields #[.int lo t, .int hi u, .int 1 v] }).objs.size, [(s.heap.push { cls := .type "range", data := .fields #[.int lo t, .int hi u, .int 1 v] }).objs.size], _, _, H, rfl,
    I1.kept (t' := tk) fun b o e => Heap.get?_push_of_some _ e, turn_range _ lo (hi - lo).toNat, ?_, fun b hb => ?_, q⟩
  · have e1 : lo + ((0 : Nat) : Int) * 1 = lo := by simp
    have e2 : (((hi - lo).toNat : Nat) : Int) - ((0 : Nat) : Int) = Builtin.Range.rangeSize lo hi 1 := by rw [rangeSize_one]; split <;> omega
    show IsRangeIter _ _ (lo + ((0 : Nat) : Int) * 1) ((((hi - lo).toNat : Nat) : Int) - ((0 : Nat) : Int)) 1
    rw [e1, e2]
    exact Heap.get?_push_size _ rfl
  · have e : b = (s.heap.push { cls := .type "range", data := .fields #[.int lo t, .int hi u, .int 1 v] }).objs.size := by simpa using hb
    subst e
    exact I1.fpOk (Nat.le_refl _) (I1.hok.fresh (Nat.le_refl _))
def iRng1 (ta : TA) : TI := fun σ H R => ta σ H fun vs H1 => XRg vs fun j => R (Itr 0 j.toNat) H1
theorem pi_range1 {a : Expr} {ta : TA} {p pos : Pos} (hg : Gl X "range") (hm : X.mg "range" = none) (ha : PA X [a] ta) (hs : starEach [a] X.env = [(false, eval a X.env)] := by rfl) : PI X tg (.Call (.Name "range" p) [a] [] pos) (iRng1 ta) := by
  intro pins s σ H R I h
  refine Call_ (ld_blt I hg hm boot_range (PyProof.Rows.callWith_type1 (thn (ha pos pins s σ H _ I h) fun us s1 ⟨vs, H1, I1, r1, q1⟩ => ?_) hs rfl))
  obtain ⟨j, e, q1, q2, q⟩ := q1
  subst e
  cases r1 with
  | cons r rr =>
    cases rr
    obtain ⟨t, rfl⟩ := r
    exact call_range_1 (range_it I1 (by omega) (by omega) q1 q2 (by simpa using q))
def tFor (wi : TI) (g : TG) (tb : TS) : TS := fun D σ H => wi σ H fun J H1 => ∃ W : Nat → Nat → St → Hp → Prop, (∃ m, W 0 m σ H1) ∧ ∀ i m σ H, W i m σ H →
  (J.stop i H ∧ D.nx σ H) ∨ (J.go i H ∧ ∃ N : St → Hp → Prop, (∀ σ' H', N σ' H' → ∃ m', m' < m ∧ W (i + 1) m' σ' H') ∧ ∀ x H', J.yld i H x H' → g x σ H' fun σ2 H2 => tb { D with nx := N, ct := N, bk := D.nx } σ2 H2)
def pinsAt (fp : List Addr) (h : Heap) : List (Addr × Obj) := fp.filterMap fun b => (h.get? b).map fun o => (b, o)
theorem mem_pinsAt {fp : List Addr} {h : Heap} {b : Addr} {o : Obj} (hb : b ∈ fp) (e : h.get? b = some o) : (b, o) ∈ pinsAt fp h := List.mem_filterMap.mpr ⟨b, hb, by rw [e]; rfl⟩
theorem of_pinsAt {fp : List Addr} {h : Heap} {p : Addr × Obj} (hp : p ∈ pinsAt fp h) : p.1 ∈ fp ∧ h.get? p.1 = some p.2 := by
  obtain ⟨b, hb, e⟩ := List.mem_filterMap.mp hp
  cases q : h.get? b with
  | none => rw [q] at e; cases e
  | some o =>
    rw [q] at e
    have e' : (b, o) = p := Option.some.inj e
    subst e'
    exact ⟨hb, q⟩
theorem Inv.pinned {pins : List (Addr × Obj)} {σ : St} {H : Hp} {s : Shared} {fp : List Addr} (I : Inv X pins σ H s) (hf : ∀ b ∈ fp, FpOk X pins H b) (ho : ∀ b ∈ fp, ∃ o, s.heap.get? b = some o ∧ ∀ v, o.data ≠ .cell v) : Inv X (pins ++ pinsAt fp s.heap) σ H s :=
  I.pins_of fun p hp => (List.mem_append.mp hp).elim (fun z => I.pin p (List.mem_append_right _ z)) fun z => by
    obtain ⟨hb, e⟩ := of_pinsAt z
    obtain ⟨f0, f1, f2, _⟩ := hf p.1 hb
    obtain ⟨o, e', d⟩ := ho p.1 hb
    rw [e] at e'; cases e'
    exact ⟨e, f0, f1, f2, d⟩
theorem Inv.unpinned {pins pl : List (Addr × Obj)} {σ : St} {H : Hp} {s : Shared} (I : Inv X (pins ++ pl) σ H s) : Inv X pins σ H s := I.pins_of fun p hp => I.pin p (List.mem_append_right _ (List.mem_append_left _ hp))
theorem ps_for {iter : Expr} {body : List Stmt} {wi : TI} {g : TG} {tb : TS} {pos : Pos} (hp : PassesOwn (model X.prog X.w) X.A X.env X.xe) (hc : X.calm = true) (hi : PI X tg iter wi) (hg : PG X tg g) (hb : PSs X body tb)
    (hs : ∀ x, foldedSetIterable iter X.env x = pure x := by intro _; rfl) : PS X (.For tg iter body [] pos) (tFor wi g tb) := by
  intro pins s σ H D I h
  refine wpAny_For (thn (hi pins s σ H _ I h) fun v s1 h1 => thn h1 fun itv s2 h2 => ?_) hs
  obtain ⟨it, fp, tn, J, H2, e, I2, T, st2, f2, W, ⟨m0, w0⟩, turn⟩ := h2
  subst e
  have stat : ∀ {H' : Hp}, (∀ b ∈ fp, H' b = none) → ∀ b ∈ fp, FpOk X pins H' b := fun hn b hb => ⟨hn b hb, (f2 b hb).2⟩
  refine codeAny_forLoop_any (fun n s' => ∃ i σ' H', Inv X pins σ' H' s' ∧ tn i s'.heap ∧ (∀ b ∈ fp, H' b = none) ∧ W i n σ' H') ?_ m0 ⟨0, σ, H2, I2, st2, fun b hb => (f2 b hb).1, w0⟩
  rintro n s3 ⟨i, σ3, H3, I3, st3, fr3, w3⟩
  rcases turn i n σ3 H3 w3 with ⟨stop, qn⟩ | ⟨go, N, hN, step⟩
  · refine wpAny_passesOwn hp (thn (T.done X rfl rfl rfl hc i pins s3 σ3 H3 X.xe I3 (stat fr3) st3 stop) fun r s4 ⟨hr, I4⟩ => ?_)
    subst hr
    exact wpAny_execs_nil ⟨σ3, H3, I4, qn⟩
  · refine wpAny_passesOwn hp (thn (T.item X rfl rfl rfl hc i pins s3 σ3 H3 X.xe I3 (stat fr3) st3 go) fun r s4 ⟨u, hr, h4⟩ => ?_)
    subst hr
    refine wpAny_passesOwn hp (thn h4 fun _ s5 ⟨x, H5, I5, r5, y5, st5, fr5⟩ => ?_)
    have I5' := I5.pinned (stat fr5) (T.obj _ _ st5)
    refine wpAny_passesOwn hp (thn (hg _ s5 σ3 H5 x u _ I5' r5 (step x H5 y5)) fun _ s6 ⟨σ6, H6, I6, q6⟩ => ?_)
    refine wpAny_passesOwn hp (thn (hb _ s6 σ6 H6 _ I6 q6) fun f s7 q7 => ?_)
    have again : ∀ {σ7 : St} {H7 : Hp}, Inv X (pins ++ pinsAt fp s5.heap) σ7 H7 s7 → N σ7 H7 → ∃ m, m < n ∧ ∃ i σ' H', Inv X pins σ' H' s7 ∧ tn i s7.heap ∧ (∀ b ∈ fp, H' b = none) ∧ W i m σ' H' := fun {σ7 H7} I7 n7 => by
      obtain ⟨m', hm, w7⟩ := hN σ7 H7 n7
      refine ⟨m', hm, i + 1, σ7, H7, I7.unpinned, T.keep _ _ _ st5 fun b hb o e => (I7.pin (b, o) (List.mem_append_right _ (List.mem_append_right _ (mem_pinsAt hb e)))).1, fun b hb => ?_, w7⟩
      obtain ⟨o, e, d⟩ := T.obj _ _ st5 b hb
      exact (I7.pin (b, o) (List.mem_append_right _ (List.mem_append_right _ (mem_pinsAt hb e)))).2.1
    cases f with
    | next => obtain ⟨σ7, H7, I7, n7⟩ := q7; exact again I7 n7
    | cont => obtain ⟨σ7, H7, I7, n7⟩ := q7; exact again I7 n7
    | brk => obtain ⟨σ7, H7, I7, q7⟩ := q7; exact ⟨σ7, H7, I7.unpinned, q7⟩
    | ret v => obtain ⟨x7, σ7, H7, I7, r7, q7⟩ := q7; exact ⟨x7, σ7, H7, I7.unpinned, r7, q7⟩
end
theorem for_list {K : PySem.W.Frag} {a : Addr} {xs : List V} {g : TG} {tb : TS} {D : Ends} {σ : St} {H : Hp} (Pv : Nat → St → Hp → Prop) (h0 : Pv 0 σ H) (hl : ∀ i σ H, i ≤ xs.length → Pv i σ H → SqL K H a xs)
    (hs : ∀ i x σ H, xs[i]? = some x → Pv i σ H → g x σ H fun σ2 H2 => tb { D with nx := Pv (i + 1), ct := Pv (i + 1), bk := D.nx } σ2 H2) (hd : ∀ σ H, Pv xs.length σ H → D.nx σ H) :
    ∃ W : Nat → Nat → St → Hp → Prop, (∃ m, W 0 m σ H) ∧ ∀ i m σ H, W i m σ H →
      ((Itl K a).stop i H ∧ D.nx σ H) ∨ ((Itl K a).go i H ∧ ∃ N : St → Hp → Prop, (∀ σ' H', N σ' H' → ∃ m', m' < m ∧ W (i + 1) m' σ' H') ∧ ∀ x H', (Itl K a).yld i H x H' → g x σ H' fun σ2 H2 => tb { D with nx := N, ct := N, bk := D.nx } σ2 H2) := by
  refine ⟨fun i m σ H => m = xs.length - i ∧ i ≤ xs.length ∧ Pv i σ H, ⟨xs.length, by simp, Nat.zero_le _, h0⟩, ?_⟩
  rintro i m σ H ⟨rfl, hi, p⟩
  have q := hl i σ H hi p
  by_cases hlt : i < xs.length
  · refine .inr ⟨⟨xs, xs[i], q, by simp [hlt]⟩, Pv (i + 1), fun σ' H' p' => ⟨xs.length - (i + 1), by omega, rfl, hlt, p'⟩, fun x H' y => ?_⟩
    obtain ⟨e, y⟩ := y
    subst e
    exact hs i x σ _ (y xs q) p
  · have e : i = xs.length := by omega
    subst e
    exact .inl ⟨⟨xs, q, Nat.le_refl _⟩, hd σ H p⟩
theorem for_range {lo : Int} {n : Nat} {g : TG} {tb : TS} {D : Ends} {σ : St} {H : Hp} (Pv : Nat → St → Hp → Prop) (h0 : Pv 0 σ H)
    (hs : ∀ i σ H, i < n → Pv i σ H → g (.int (lo + i)) σ H fun σ2 H2 => tb { D with nx := Pv (i + 1), ct := Pv (i + 1), bk := D.nx } σ2 H2) (hd : ∀ σ H, Pv n σ H → D.nx σ H) :
    ∃ W : Nat → Nat → St → Hp → Prop, (∃ m, W 0 m σ H) ∧ ∀ i m σ H, W i m σ H →
      ((Itr lo n).stop i H ∧ D.nx σ H) ∨ ((Itr lo n).go i H ∧ ∃ N : St → Hp → Prop, (∀ σ' H', N σ' H' → ∃ m', m' < m ∧ W (i + 1) m' σ' H') ∧ ∀ x H', (Itr lo n).yld i H x H' → g x σ H' fun σ2 H2 => tb { D with nx := N, ct := N, bk := D.nx } σ2 H2) := by
  refine ⟨fun i m σ H => m = n - i ∧ i ≤ n ∧ Pv i σ H, ⟨n, by simp, Nat.zero_le _, h0⟩, ?_⟩
  rintro i m σ H ⟨rfl, hi, p⟩
  by_cases hlt : i < n
  · refine .inr ⟨hlt, Pv (i + 1), fun σ' H' p' => ⟨n - (i + 1), by omega, rfl, hlt, p'⟩, fun x H' y => ?_⟩
    obtain ⟨e, y⟩ := y
    subst e y
    exact hs i σ _ hlt p
  · have e : i = n := by omega
    subst e
    exact .inl ⟨Nat.le_refl _, hd σ H p⟩
end L2
namespace L2
open PySem PySem.Spec PyProof.Rows
abbrev R2 := V → V → Hp → VK → Prop
def OpR (X : Cx) (f : Value → Value → Sem Value) (r : R2) : Prop :=
  ∀ (pins : List (Addr × Obj)) (s : Shared) (σ : St) (H : Hp) (x y : V) (v u : Value) (Q : VK), Inv X pins σ H s → RelV x v → RelV y u → r x y H Q →
    wpAny (model X.prog X.w) X.A (f v u) (EP X pins σ Q) X.xe s
def CallR (X : Cx) (f : Value) (r : List V → Hp → VK → Prop) : Prop :=
  ∀ (pins : List (Addr × Obj)) (s : Shared) (σ : St) (H : Hp) (xs : List V) (us : List Value) (Q : VK), Inv X pins σ H s → Vals xs us → r xs H Q →
    wpAny (model X.prog X.w) X.A (call f us) (EP X pins σ Q) X.xe s
def tOp (r : R2) (ta tb : TE) : TE := fun σ H Q => ta σ H fun x H1 => tb σ H1 fun y H2 => r x y H2 Q
def rI (C : Int → Int → Prop) (g : Int → Int → V) : R2 := fun x y H Q => XI2 x y C fun i j => Q (g i j) H
def rI0 (g : Int → Int → V) : R2 := fun x y H Q => XI0 x y fun i j => Q (g i j) H
section
variable {X : Cx} {a b c : Expr} {ta tb tc : TE} {pos : Pos}
theorem binT (ha : PE X a ta) (hb : PE X b tb) {pins : List (Addr × Obj)} {s : Shared} {σ : St} {H : Hp} {R : V → V → Hp → Prop} (I : Inv X pins σ H s)
    (h : ta σ H fun x H1 => tb σ H1 fun y H2 => R x y H2) {Q : Value → Shared → Prop} {f : Value → Value → Sem Value}
    (hf : ∀ v u s2 x y H2, Inv X pins σ H2 s2 → RelV x v → RelV y u → R x y H2 → wpAny (model X.prog X.w) X.A (f v u) Q X.xe s2) :
    wpAny (model X.prog X.w) X.A (eval a X.env) (fun v s₁ => wpAny (model X.prog X.w) X.A (eval b X.env) (fun u s₂ => wpAny (model X.prog X.w) X.A (f v u) Q X.xe s₂) X.xe s₁) X.xe s := by
  refine thn (ha pins s σ H _ I h) fun v s1 ⟨x, H1, I1, r1, q1⟩ => ?_
  refine thn (hb pins s1 σ H1 _ I1 q1) fun u s2 ⟨y, H2, I2, r2, q2⟩ => ?_
  exact hf v u s2 x y H2 I2 r1 r2 q2
theorem pe_op {op : Operator} {r : R2} (ho : OpR X (binaryOp op) r) (ha : PE X a ta) (hb : PE X b tb) : PE X (.BinOp a op b pos) (tOp r ta tb) := by
  intro pins s σ H Q I h
  exact wpAny_BinOp (binT ha hb I h fun v u s2 x y H2 I2 rx ry q => ho pins s2 σ H2 x y v u Q I2 rx ry q)
theorem opI {f : Value → Value → Sem Value} {C : Int → Int → Prop} {g : Int → Int → Int}
    (rule : ∀ (i j : Int) (t u : Tok) (s : Shared) (Q : Value → Shared → Prop) (E : Value → Shared → Prop), C i j → Q (.int (g i j) s.toks) { s with toks := s.toks + 1 } → wpAny (model X.prog X.w) X.A (f (.int i t) (.int j u)) Q E s) :
    OpR X f (rI C fun i j => .int (g i j)) := by
  intro pins s σ H x y v u Q I rx ry h
  obtain ⟨i, j, rfl, rfl, hc, q⟩ := h
  obtain ⟨t, rfl⟩ := rx
  obtain ⟨t', rfl⟩ := ry
  exact rule i j t t' s _ _ hc ⟨.int (g i j), H, I.tok _, ⟨_, rfl⟩, q⟩
theorem opI0 {f : Value → Value → Sem Value} {g : Int → Int → Int}
    (rule : ∀ (i j : Int) (t u : Tok) (s : Shared) (Q : Value → Shared → Prop) (E : Value → Shared → Prop), Q (.int (g i j) s.toks) { s with toks := s.toks + 1 } → wpAny (model X.prog X.w) X.A (f (.int i t) (.int j u)) Q E s) :
    OpR X f (rI0 fun i j => .int (g i j)) := by
  intro pins s σ H x y v u Q I rx ry h
  obtain ⟨i, j, rfl, rfl, q⟩ := h
  obtain ⟨t, rfl⟩ := rx
  obtain ⟨t', rfl⟩ := ry
  exact rule i j t t' s _ _ ⟨.int (g i j), H, I.tok _, ⟨_, rfl⟩, q⟩
theorem opB0 {f : Value → Value → Sem Value} {g : Int → Int → Bool}
    (rule : ∀ (i j : Int) (t u : Tok) (s : Shared) (Q : Value → Shared → Prop) (E : Value → Shared → Prop), Q (.bool (g i j)) s → wpAny (model X.prog X.w) X.A (f (.int i t) (.int j u)) Q E s) :
    OpR X f (rI0 fun i j => .bl (g i j)) := by
  intro pins s σ H x y v u Q I rx ry h
  obtain ⟨i, j, rfl, rfl, q⟩ := h
  obtain ⟨t, rfl⟩ := rx
  obtain ⟨t', rfl⟩ := ry
  exact rule i j t t' s _ _ ⟨.bl (g i j), H, I, rfl, q⟩
def CDiv (i j : Int) : Prop := 0 < j ∧ j < 1073741824
def CMul (i j : Int) : Prop := (-(2 ^ 64) < i ∧ i < 2 ^ 64) ∨ (-(2 ^ 64) < j ∧ j < 2 ^ 64)
theorem CMul.ok {i j : Int} (h : CMul i j) : IntMulOk i j := by
  rcases h with ⟨h1, h2⟩ | ⟨h1, h2⟩
  · exact .of_left (intBits_le_64 h1 h2)
  · exact .of_right (intBits_le_64 h1 h2)
theorem op_add : OpR X (binaryOp .Add) (rI0 fun i j => .int (i + j)) := opI0 fun _ _ _ _ _ _ _ q => add_int q
theorem op_fdiv : OpR X (binaryOp .FloorDiv) (rI CDiv fun i j => .int (i / j)) := opI fun i j _ _ _ _ _ hc q => by
  have h1 : (0 : Int) < j := hc.1
  have h2 : j < 1073741824 := hc.2
  exact floordiv_int (by omega) (by rw [Int.fdiv_eq_ediv_of_nonneg i (by omega)]; exact q) (.inl (PyProof.noPylong_small (by omega)))
theorem op_mod : OpR X (binaryOp .Mod) (rI (fun _ j => 0 < j) fun i j => .int (i % j)) := opI fun i j _ _ _ _ _ hc q => by
  have h1 : (0 : Int) < j := hc
  exact mod_int' (by omega) (by rw [Int.fmod_eq_emod_of_nonneg i (by omega)]; exact q)
end
def scal : V → V → Bool
  | .non, .non => true | .non, .int _ => true | .int _, .non => true | .non, .bl _ => true | .bl _, .non => true | .non, .str _ => true | .str _, .non => true
  | .int _, .int _ => true | .bl _, .bl _ => true | .str _, .str _ => true | .byt _, .byt _ => true
  | .int _, .str _ => true | .str _, .int _ => true | .bl _, .str _ => true | .str _, .bl _ => true
  | _, _ => false
def rEq : R2 := fun x y H Q => scal x y = true ∧ Q (.bl (decide (x = y))) H
theorem dec_int {i j : Int} : decide (V.int i = V.int j) = (i == j) := by
  rw [Bool.eq_iff_iff]
  simp
theorem dec_bl {i j : Bool} : decide (V.bl i = V.bl j) = (i == j) := by
  rw [Bool.eq_iff_iff]
  simp
theorem dec_str {i j : Str} : decide (V.str i = V.str j) = (i == j) := by
  rw [Bool.eq_iff_iff]
  simp
theorem dec_byt {i j : Array UInt8} : decide (V.byt i = V.byt j) = (i.toList == j.toList) := by
  rw [Bool.eq_iff_iff]
  cases i
  cases j
  simp
section
variable {X : Cx} {a b c : Expr} {ta tb tc : TE} {pos : Pos}
theorem fin_bl {pins : List (Addr × Obj)} {σ : St} {H : Hp} {s : Shared} {Q : VK} {k k' : Bool} (I : Inv X pins σ H s) (q : Q (.bl k) H) (e : k = k') : EP X pins σ Q (.bool k') s := by
  subst e
  exact ⟨.bl k, H, I, rfl, q⟩
theorem op_eq : OpR X (compareOp .Eq) rEq := by
  intro pins s σ H x y v u Q I rx ry h
  obtain ⟨hs, q⟩ := h
  cases x with
  | non =>
    cases rx
    cases y with
    | non => cases ry; exact PySem.EqNone.eq_none_none (fin_bl I q (by simp))
    | bl j => cases ry; exact PySem.EqNone.eq_none_bool (fin_bl I q (by simp))
    | int j => obtain ⟨t', rfl⟩ := ry; exact PySem.EqNone.eq_none_int (fin_bl I q (by simp))
    | str j => obtain ⟨t', rfl⟩ := ry; exact PySem.EqNone.eq_none_str (fin_bl I q (by simp))
    | _ => exact absurd (show false = true from hs) Bool.false_ne_true
  | bl i =>
    cases rx
    cases y with
    | non => cases ry; exact PySem.EqNone.eq_bool_none (fin_bl I q (by simp))
    | bl j => cases ry; exact eq_bool (fin_bl I q dec_bl)
    | str j => obtain ⟨t', rfl⟩ := ry; exact PySem.EqMixed.eq_bool_str (fin_bl I q (by simp))
    | _ => exact absurd (show false = true from hs) Bool.false_ne_true
  | int i =>
    obtain ⟨t, rfl⟩ := rx
    cases y with
    | non => cases ry; exact PySem.EqNone.eq_int_none (fin_bl I q (by simp))
    | int j => obtain ⟨t', rfl⟩ := ry; exact eq_int (fin_bl I q dec_int)
    | str j => obtain ⟨t', rfl⟩ := ry; exact PySem.EqMixed.eq_int_str (fin_bl I q (by simp))
    | _ => exact absurd (show false = true from hs) Bool.false_ne_true
  | str i =>
    obtain ⟨t, rfl⟩ := rx
    cases y with
    | non => cases ry; exact PySem.EqNone.eq_str_none (fin_bl I q (by simp))
    | bl j => cases ry; exact PySem.EqMixed.eq_str_bool (fin_bl I q (by simp))
    | int j => obtain ⟨t', rfl⟩ := ry; exact PySem.EqMixed.eq_str_int (fin_bl I q (by simp))
    | str j => obtain ⟨t', rfl⟩ := ry; exact eq_str (fin_bl I q dec_str)
    | _ => exact absurd (show false = true from hs) Bool.false_ne_true
  | byt i =>
    obtain ⟨t, rfl⟩ := rx
    cases y with
    | byt j => obtain ⟨t', rfl⟩ := ry; exact PySem.W.eq_bytes (fin_bl I q dec_byt)
    | _ => exact absurd (show false = true from hs) Bool.false_ne_true
  | _ => cases y <;> exact absurd (show false = true from hs) Bool.false_ne_true
theorem op_lt : OpR X (compareOp .Lt) (rI0 fun i j => .bl (decide (i < j))) := opB0 fun _ _ _ _ _ _ _ q => lt_int q
theorem op_gt : OpR X (compareOp .Gt) (rI0 fun i j => .bl (decide (j < i))) := opB0 fun _ _ _ _ _ _ _ q => gt_int q
theorem OpR.or {f : Value → Value → Sem Value} {r r' : R2} (h : OpR X f r) (h' : OpR X f r') : OpR X f (fun x y H Q => r x y H Q ∨ r' x y H Q) := by
  intro pins s σ H x y v u Q I rx ry q
  rcases q with q | q
  · exact h pins s σ H x y v u Q I rx ry q
  · exact h' pins s σ H x y v u Q I rx ry q
theorem nomark (b : Expr) {op : CmpOp} (h : op ≠ .In := by decide) (h2 : op ≠ .NotIn := by decide) : behindInMarks op b = false := by
  have e1 : (op == CmpOp.In) = false := by cases op <;> first | rfl | exact absurd rfl h
  have e2 : (op == CmpOp.NotIn) = false := by cases op <;> first | rfl | exact absurd rfl h2
  cases b <;> simp [behindInMarks, e1, e2]
theorem pe_cmpR {op : CmpOp} {r : R2} (ho : OpR X (compareOp op) r) (ha : PE X a ta) (hb : PE X b tb) (hm : behindInMarks op b = false) : PE X (.Compare a [op] [b] pos) (tOp r ta tb) := by
  intro pins s σ H Q I h
  exact wpAny_Compare1 (binT ha hb I h fun v u s2 x y H2 I2 rx ry q => ho pins s2 σ H2 x y v u Q I2 rx ry q) hm
def tTest (t : TE) : TT := fun σ H Q => t σ H fun x H' => XB x fun k => Q k H'
theorem pt_cmpR {op : CmpOp} {r : R2} (ho : OpR X (compareOp op) r) (ha : PE X a ta) (hb : PE X b tb) (hm : behindInMarks op b = false) : PT X (.Compare a [op] [b] pos) (tTest (tOp r ta tb)) := by
  intro pins s σ H Q I h
  refine wpAny_isTrue_Compare1 (thn (ha pins s σ H _ I h) fun v s1 ⟨x, H1, I1, r1, q1⟩ => thn (hb pins s1 σ H1 _ I1 q1) fun u s2 ⟨y, H2, I2, r2, q2⟩ =>
    thn (ho pins s2 σ H2 x y v u _ I2 r1 r2 q2) fun c s3 ⟨z, H3, I3, r3, k, e, q3⟩ => ?_) hm
  subst e
  cases r3
  exact wpAny_truthy_bool ⟨H3, I3, q3⟩
theorem line63 : (sizeLine : Nat) < 2 ^ 63 := by rw [sizeLine_eq]; decide
theorem vals1 {x : V} {us : List Value} (r : Vals [x] us) : ∃ u, us = [u] ∧ RelV x u := by
  cases r with
  | cons r1 r2 => cases r2; exact ⟨_, rfl, r1⟩
theorem vals2 {x y : V} {us : List Value} (r : Vals [x, y] us) : ∃ u w', us = [u, w'] ∧ RelV x u ∧ RelV y w' := by
  cases r with
  | cons r1 r2 =>
    cases r2 with
    | cons r3 r4 => cases r4; exact ⟨_, _, rfl, r1, r3⟩
end
end L2
namespace L2
open PySem PySem.Spec PyProof.Rows
structure ObjM (h : Heap) (x dx C : Addr) (mA : Str → Option Value) : Prop where
  obj : h.get? x = some (PySem.W.instObj C dx)
  ns : h.Ns1 dx mA
  ne : dx ≠ x
section
variable {prog : Program} {w : World} {A : Around} {E : Value → Shared → Prop} {s : Shared} {K : PySem.W.Frag} {x dx C f : Addr} {mA : Str → Option Value} {name : Str} {v : Value}
end
def putF (f : Str) (v : V) : List (Str × V) → List (Str × V)
  | [] => [(f, v)]
  | (g, x) :: r => if g = f then (g, v) :: r else (g, x) :: putF f v r
section
variable {P : Program} {w : World} {H H' : Hp} {h h' : Heap} {a C dx : Addr} {fs fs' : List (Str × V)}
end
structure Cls (K : PySem.W.Frag) (C : Addr) : Prop where
  pg : PySem.W.plainGet K C Str.empty = true
  hd : PySem.W.hasDictIn K C = true
  po : PySem.W.plainOver K C = true
  sa : PySem.W.findIn K (.ref C) "__setattr__" = some (some (.builtin "object.__setattr__"))
theorem Cls.get {K : PySem.W.Frag} {C : Addr} (c : Cls K C) (f : Str) : PySem.W.plainGet K C f = true := c.pg
def NoAttr (K : PySem.W.Frag) (C : Addr) (f : Str) : Prop := PySem.W.findIn K (.ref C) f = some none
structure Con (K : PySem.W.Frag) (C : Addr) (f : Str) (v : V) (u : Value) : Prop where
  at_ : PySem.W.findIn K (.ref C) f = some (some u)
  rel : RelV v u
  get : PySem.W.specialIn K u "__get__" = some none
  cp : PySem.W.copiedNames.contains f = false
structure Meth (K : PySem.W.Frag) (C : Addr) (m : Str) (f : Addr) : Prop where
  at_ : PySem.W.findIn K (.ref C) m = some (some (.ref f))
  fn : PySem.W.isFn K (.ref f) = true
  kp : PySem.W.keepIn K (.ref f) = true
section
variable {X : Cx} {pins : List (Addr × Obj)} {σ : St} {H : Hp} {s : Shared} {a C dx : Addr} {fs : List (Str × V)} {f : Str} {v : V} {A : Around} {E : Value → Shared → Prop}
theorem Inv.made (I : Inv X pins σ H s) : Inv X pins σ (upd (upd H s.heap.objs.size (.own (s.heap.objs.size + 1))) (s.heap.objs.size + 1) (.ins C s.heap.objs.size []))
    { s with heap := (s.heap.push PySem.W.emptyDict).push (PySem.W.instObj C s.heap.objs.size) } := by
  have e1 : (s.heap.push PySem.W.emptyDict).get? s.heap.objs.size = some PySem.W.emptyDict := Heap.get?_push_size s.heap rfl
  have e2 : ((s.heap.push PySem.W.emptyDict).push (PySem.W.instObj C s.heap.objs.size)).get? (s.heap.objs.size + 1) = some (PySem.W.instObj C s.heap.objs.size) := by
    have := Heap.get?_push_size (s.heap.push PySem.W.emptyDict) (o := PySem.W.instObj C s.heap.objs.size) rfl
    rwa [Heap.size_push] at this
  have e3 : (s.heap.push PySem.W.emptyDict).Ns s.heap.objs.size (fun _ => none) := ⟨PySem.W.emptyDict, #[], _, e1, rfl, (fun e he => absurd he (by simp)), fun _ => rfl⟩
  have I1 := I.laid (a := s.heap.objs.size) (o := .own (s.heap.objs.size + 1)) (h' := s.heap.push PySem.W.emptyDict) (t' := s.toks) (fun b u q => Heap.get?_push_of_some _ q) (Nat.le_refl _) ⟨_, e1⟩
  refine I1.laid (a := s.heap.objs.size + 1) (o := .ins C s.heap.objs.size []) (t' := s.toks) (fun b u q => Heap.get?_push_of_some _ q) (Nat.le_of_eq (Heap.size_push _ _)) ?_
  have ne : s.heap.objs.size ≠ s.heap.objs.size + 1 := Nat.ne_of_lt (Nat.lt_succ_self _)
  refine ⟨by rw [upd_ne ne, upd_same], Nat.zero_le _, ne, e2, fun _ => none, (Heap.Ns1.of_empty e3).at fun o q => Heap.get?_push_of_some _ q, fun _ => True.intro, fun y hy => absurd rfl hy⟩
end
inductive XFld (K : PySem.W.Frag) (H : Hp) (f : Str) (x : V) (R : V → Prop) : Prop
  | mk (a C dx : Addr) (fs : List (Str × V)) (v : V) (e : x = .ref a) (h : H a = some (.ins C dx fs)) (c : Cls K C) (n : NoAttr K C f) (l : fs.lookup f = some v) (q : R v) : XFld K H f x R
inductive XSf (K : PySem.W.Frag) (H : Hp) (f : Str) (x : V) (R : Addr → Addr → Addr → List (Str × V) → Prop) : Prop
  | mk (a C dx : Addr) (fs : List (Str × V)) (e : x = .ref a) (h : H a = some (.ins C dx fs)) (c : Cls K C) (n : NoAttr K C f) (l : fs.length < 1000) (q : R a C dx fs) : XSf K H f x R
section
variable {X : Cx} {o e value : Expr} {f : Str} {pos pos' tpos : Pos} {ta tv : TE}
end
section
variable {X : Cx} {pins : List (Addr × Obj)} {σ : St} {H : Hp} {s : Shared} {A : Around} {E : Value → Shared → Prop} {Q : Value → Shared → Prop} {c : Value} {b : Bool}
inductive TyOf (K : PySem.W.Frag) (H : Hp) : V → Value → Prop where
  | non : TyOf K H .non (.type "NoneType")
  | bl (x : Bool) : TyOf K H (.bl x) (.type "bool")
  | int (i : Int) : TyOf K H (.int i) (.type "int")
  | str (x : Str) : TyOf K H (.str x) (.type "str")
  | flt (x : UInt64) : TyOf K H (.flt x) (.type "float")
  | lst {a : Addr} {xs : List V} (e : H a = some (.lst xs)) : TyOf K H (.ref a) (.type "list")
  | frz {a : Addr} {o : Obj} {xs : List V} (e : H a = some (.frz o (.lst xs))) : TyOf K H (.ref a) (.type "list")
  | tup {a : Addr} {xs : List V} (e : H a = some (.tup xs)) : TyOf K H (.ref a) (.type "tuple")
  | dK {a : Addr} {kvs : List (Key × V)} (e : H a = some (.dK kvs)) : TyOf K H (.ref a) (.type "dict")
  | dT {a : Addr} {kvs : List (List Key × V)} (e : H a = some (.dT kvs)) : TyOf K H (.ref a) (.type "dict")
  | ins {a C dx : Addr} {fs : List (Str × V)} (e : H a = some (.ins C dx fs)) (cl : Cls K C) (ha : PySem.W.findIn K (.ref C) "__class__" = some (some (.builtin "object.__class__")))
      (hn : PySem.W.specialIn K (.builtin "object.__class__") "__get__" = some (some (.builtin "getset_descriptor.__get__"))) (htk : PySem.W.takesIn K (.builtin "object.__class__") = some true)
      (hm : PySem.W.mroIn K C (.type "object") = some true) : TyOf K H (.ref a) (.ref C)
end
end L2
namespace L2
open PySem PySem.Spec PyProof.Rows
structure Room (k : Nat) (A : Around) : Prop where
  hd : A.handled = none
  dp : A.depth + 3 * k + 5 < recursionLimit
  un : A.units + 16 * k + 200 < cLine
  gd : A.guards = some []
theorem Room.mono {j k : Nat} {A : Around} (r : Room k A) (h : j ≤ k) : Room j A := ⟨r.hd, by have := r.dp; omega, by have := r.un; omega, r.gd⟩
theorem Room.deeper {k : Nat} {A : Around} (r : Room (k + 1) A) (env : Env) : Room k (A.deeper env) :=
  ⟨r.hd, by have := r.dp; show A.depth + 1 + 3 * k + 5 < _; omega, by have := r.un; show A.units + 3 + 16 * k + 200 < _; omega, r.gd⟩
theorem Room.in1 {k : Nat} {A : Around} (r : Room (k + 1) A) : Room k A.in1 :=
  ⟨r.hd, by have := r.dp; show A.depth + 3 * k + 5 < _; omega, by have := r.un; show A.units + 1 + 16 * k + 200 < _; omega, r.gd⟩
theorem make_depth {A : Around} {C : Addr} {us : List Value} {kw : List (Str × Value)} : (A.under (.builtin "type.__call__" ⟨.ref C :: us, kw⟩)).depth = A.depth + 1 := by
  first | rfl | simp [Around.under, Code.weight, Code.isCreation, Code.isGuard, Code.isCaller, Code.frames, Code.isFrame, guardIds]
theorem make_units {A : Around} {C : Addr} {us : List Value} {kw : List (Str × Value)} : (A.under (.builtin "type.__call__" ⟨.ref C :: us, kw⟩)).units = A.units + 1 := by
  first | rfl | simp [Around.under, Code.cUnits, Code.frames, Code.isFrame]
theorem make_guards {A : Around} {C : Addr} {us : List Value} {kw : List (Str × Value)} : (A.under (.builtin "type.__call__" ⟨.ref C :: us, kw⟩)).guards = A.guards := by
  first | rfl | simp [Around.under, Code.guards, Code.isGuard, guardIds, pushGuards]
theorem Room.make {k : Nat} {A : Around} (r : Room (k + 1) A) (C : Addr) (us : List Value) (kw : List (Str × Value)) : Room k (A.under (.builtin "type.__call__" ⟨.ref C :: us, kw⟩)) :=
  ⟨r.hd, by have := r.dp; rw [make_depth]; omega, by have := r.un; rw [make_units]; omega, by rw [make_guards]; exact r.gd⟩
theorem Room.depth {k : Nat} {A : Around} (r : Room k A) : A.depth < recursionLimit := by have := r.dp; omega
theorem Room.units {k : Nat} {A : Around} (r : Room k A) : A.units + 64 < cLine := by have := r.un; omega
def tNil : TA := fun _ H Q => Q [] H
def tCons (ta : TE) (tr : TA) : TA := fun σ H Q => ta σ H fun x H1 => tr σ H1 fun xs H2 => Q (x :: xs) H2
section
variable {X : Cx} {e : Expr} {es : List Expr} {te : TE} {t : TA} {pos : Pos}
theorem pa_nil : PA X [] tNil := fun _ _ _ _ H Q I h => Calls.spliced_nil ⟨[], H, I, .nil, h⟩
theorem pa_cons (ha : PE X e te) (hr : PA X es t) (hs : starEach (e :: es) X.env = (false, eval e X.env) :: starEach es X.env := by rfl) : PA X (e :: es) (tCons te t) := by
  intro pos pins s σ H Q I h
  rw [hs]
  show wpAny _ _ (spliced ((false, eval e X.env) :: backTo pos (starEach es X.env))) _ _ s
  refine Calls.spliced_cons (thn (ha pins s σ H _ I h) fun u s1 ⟨x, H1, I1, r1, q1⟩ => ?_)
  exact thn (hr pos pins s1 σ H1 _ I1 q1) fun us s2 ⟨xs, H2, I2, r2, q2⟩ => ⟨x :: xs, H2, I2, .cons r1 r2, q2⟩
def tTup (t : TA) : TE := fun σ H Q => t σ H fun xs H1 => xs.length ≤ sizeLine ∧ ∀ p, H1 p = none → Q (.ref p) (upd H1 p (.tup xs))
def tLst (t : TA) : TE := fun σ H Q => t σ H fun xs H1 => xs.length ≤ sizeLine ∧ ∀ p, H1 p = none → Q (.ref p) (upd H1 p (.lst xs))
theorem pe_tup {x1} (h : PA X es t) : PE X (.Tuple es x1 pos) (tTup t) := by
  intro pins s σ H Q I hq
  refine wpAny_Tuple_spliced (thn (h pos pins s σ H _ I hq) fun us s1 ⟨xs, H1, I1, r, z, q⟩ => ⟨by rw [← r.length]; exact z, ?_⟩)
  have hf : H1 s1.heap.objs.size = none := I1.hok.fresh (Nat.le_refl _)
  refine ⟨.ref s1.heap.objs.size, upd H1 s1.heap.objs.size (.tup xs), I1.laid (t' := s1.toks) (fun b u e => Heap.get?_push_of_some _ e) (Nat.le_refl _) ?_, rfl, q _ hf⟩
  exact ⟨z, us, r, ⟨_, Heap.get?_push_size _ rfl, rfl, _, rfl⟩⟩
theorem pe_lst (h : PA X es t) : PE X (.List es pos) (tLst t) := by
  intro pins s σ H Q I hq
  refine wpAny_List_spliced (thn (h pos pins s σ H _ I hq) fun us s1 ⟨xs, H1, I1, r, z, q⟩ => ⟨by rw [← r.length]; exact z, ?_⟩)
  have hf : H1 s1.heap.objs.size = none := I1.hok.fresh (Nat.le_refl _)
  refine ⟨.ref s1.heap.objs.size, upd H1 s1.heap.objs.size (.lst xs), I1.laid (t' := s1.toks) (fun b u e => Heap.get?_push_of_some _ e) (Nat.le_refl _) ?_, rfl, q _ hf⟩
  exact ⟨z, us, 0, r, Heap.get?_push_size _ rfl⟩
end
abbrev Sp := List V → Hp → VK → XK → Prop
abbrev CXT := List Env → Hp → Shared → XK → Value → Shared → Prop
structure Env0 (P : Program) (w : World) (K : PySem.W.Frag) (mg : Str → Option Value) (base : Heap) (A : Around) (outer : List Env) (s : Shared) (H : Hp) : Prop where
  frames : A.frames = some outer
  mod : Mod K mg base
  bs : ∀ b o, base.get? b = some o → s.heap.get? b = some o ∧ H b = none
  bsz : base.objs.size ≤ s.heap.objs.size
  funs : s.heap.FunFrames base outer
  frf : ∀ b ∈ frs outer, H b = none
  hok : HOk P w H s.heap
  bare : AllBare s.gens
def CE (outer : List Env) (P : Program) (w : World) (H : Hp) (s : Shared) (Q : VK) (u : Value) (s' : Shared) : Prop :=
  ∃ v H', s'.os = s.os ∧ AllBare s'.gens ∧ Un (frs outer) [] H H' s.heap s'.heap ∧ HOk P w H' s'.heap ∧ RelV v u ∧ Q v H'
def CR (CX : CXT) (outer : List Env) (P : Program) (w : World) (H : Hp) (s : Shared) (Q : VK) (E : XK) (r : Result) (s' : Shared) : Prop :=
  match r with
  | .ok (.ret u) => CE outer P w H s Q u s'
  | .ok _ => False
  | .error e => CX outer H s E e s'
structure FnOk (P : Program) (w : World) (K : PySem.W.Frag) (mg : Str → Option Value) (base : Heap) (CX : CXT) (k : Nat) (f : Addr) (fd : FuncData) (ps : List Str) (sp : Sp) : Prop where
  len : ∀ vs H Q E, sp vs H Q E → vs.length = ps.length
  run : ∀ (A : Around) (outer : List Env) (s : Shared) (H : Hp) (args : Args) (us : List Value) (vs : List V) (Q : VK) (E : XK), Room k A → Env0 P w K mg base A outer s H → BindsTo s fd args (ps.zip us) → Vals vs us → sp vs H Q E →
    codeAny (model P w) A (.call (.ref f) args) (CR CX outer P w H s Q E) s
theorem FnOk.mono {P : Program} {w : World} {K : PySem.W.Frag} {mg : Str → Option Value} {base : Heap} {CX : CXT} {j k : Nat} {f : Addr} {fd : FuncData} {ps : List Str} {sp : Sp} (F : FnOk P w K mg base CX j f fd ps sp) (h : j ≤ k) :
    FnOk P w K mg base CX k f fd ps sp := ⟨F.len, fun A outer s H args us vs Q E hr => F.run A outer s H args us vs Q E (hr.mono h)⟩
theorem FnOk.imp {P : Program} {w : World} {K : PySem.W.Frag} {mg : Str → Option Value} {base : Heap} {CX : CXT} {k : Nat} {f : Addr} {fd : FuncData} {ps : List Str} {sp sp' : Sp} (F : FnOk P w K mg base CX k f fd ps sp)
    (h : ∀ vs H Q E, sp' vs H Q E → sp vs H Q E) : FnOk P w K mg base CX k f fd ps sp' :=
  ⟨fun vs H Q E q => F.len vs H Q E (h _ _ _ _ q), fun A outer s H args us vs Q E hr he hb hv hs => F.run A outer s H args us vs Q E hr he hb hv (h _ _ _ _ hs)⟩
theorem Env0.make {P : Program} {w : World} {K : PySem.W.Frag} {mg : Str → Option Value} {base : Heap} {A : Around} {outer : List Env} {s : Shared} {H : Hp} (e : Env0 P w K mg base A outer s H) (C : Addr) (us : List Value) (kw : List (Str × Value)) :
    Env0 P w K mg base (A.under (.builtin "type.__call__" ⟨.ref C :: us, kw⟩)) outer s H := ⟨by first | exact e.frames | (simpa [Around.under, Code.envs, Code.isFrame, pushEnvs] using e.frames), e.mod, e.bs, e.bsz, e.funs, e.frf, e.hok, e.bare⟩
theorem Env0.in1 {P : Program} {w : World} {K : PySem.W.Frag} {mg : Str → Option Value} {base : Heap} {A : Around} {outer : List Env} {s : Shared} {H : Hp} (e : Env0 P w K mg base A outer s H) :
    Env0 P w K mg base A.in1 outer s H := ⟨e.frames, e.mod, e.bs, e.bsz, e.funs, e.frf, e.hok, e.bare⟩
section
variable {X : Cx} {pins : List (Addr × Obj)} {σ : St} {H : Hp} {s s' : Shared}
theorem Inv.env0 (I : Inv X pins σ H s) : Env0 X.prog X.w X.K X.mg X.base X.A X.stack s H :=
  ⟨I.ok.frames, I.ok.mod, I.bs, Nat.le_trans I.ok.bsz I.sz, I.stack, I.stkFree, I.hok, I.bare⟩
theorem Inv.after {Q : VK} {u : Value} (I : Inv X pins σ H s) (h : CE X.stack X.prog X.w H s Q u s') : EP X pins σ Q u s' := by
  obtain ⟨v, H', os, bare, un, hok, r, q⟩ := h
  obtain ⟨hh, g, d, t, os'⟩ := s'
  obtain rfl : os' = s.os := os
  exact ⟨v, H', I.call (h' := hh) (g' := g) (d' := d) (t' := t) (ch := []) un hok bare (fun b z => absurd z (by simp)), r, q⟩
end
def tCall (sp : Sp) (dvs : List V) (E : XK) (t : TA) : TE := fun σ H Q => t σ H fun vs H1 => sp (vs ++ dvs) H1 Q E
def Binds (K : PySem.W.Frag) (fd : FuncData) (ps : List Str) (ds : List Value) : Prop :=
  ∀ (s : Shared) (us : List Value), K.In s.heap → (us ++ ds).length = ps.length → BindsTo s fd ⟨us, []⟩ (ps.zip (us ++ ds))
theorem Binds.all {K : PySem.W.Frag} {fd : FuncData} {ps : List Str} (h : ∀ us : List Value, us.length = ps.length → bindArgs fd ⟨us, []⟩ = pure (ps.zip us)) : Binds K fd ps [] := fun s us _ hl => by
  rw [List.append_nil] at hl ⊢
  exact .of_eq (h us hl)
def Passes (CX : CXT) (X : Cx) (E : XK) : Prop := ∀ (pins : List (Addr × Obj)) (σ : St) (H : Hp) (s : Shared) (e : Value) (s' : Shared), Inv X pins σ H s → CX X.stack H s E e s' → X.xe e s'
section
variable {X : Cx} {CX : CXT} {k : Nat} {f C : Addr} {fd : FuncData} {ps : List Str} {sp : Sp} {dvs : List V} {ds : List Value} {E : XK} {x m : Str} {p pos apos : Pos} {e o : Expr} {es : List Expr} {ta : TE} {t : TA}
theorem run_fn {pins : List (Addr × Obj)} {σ : St} {H : Hp} {s : Shared} {Q : VK} {us : List Value} {vs : List V} (F : FnOk X.prog X.w X.K X.mg X.base CX k f fd ps sp) (hr : Room k X.A) (hb : Binds X.K fd ps ds) (hd : Vals dvs ds) (hx : Passes CX X E)
    (I : Inv X pins σ H s) (r : Vals vs us) (h : sp (vs ++ dvs) H Q E) : wpAny (model X.prog X.w) X.A (call (.ref f) us) (EP X pins σ Q) X.xe s := by
  have r2 : Vals (vs ++ dvs) (us ++ ds) := r.append hd
  have hl : (us ++ ds).length = ps.length := by rw [← r2.length]; exact F.len _ _ _ _ h
  refine wpAny_call (codeAny_mono (F.run X.A X.stack s H ⟨us, []⟩ (us ++ ds) (vs ++ dvs) Q E hr I.env0 (hb s us I.kIn hl) r2 h) fun r s' hq => ?_)
  cases r with
  | error e => exact hx pins σ H s e s' I hq
  | ok fl =>
    cases fl with
    | ret u => exact I.after hq
    | next => exact False.elim hq
    | brk => exact False.elim hq
    | cont => exact False.elim hq
theorem pe_call (F : FnOk X.prog X.w X.K X.mg X.base CX k f fd ps sp) (hr : Room k X.A) (hg : Gl X x) (hm : X.mg x = some (.ref f)) (hk : PySem.W.keepIn X.K (.ref f) = true) (hb : Binds X.K fd ps ds) (hd : Vals dvs ds) (hx : Passes CX X E)
    (ha : PA X (e :: es) t) (hdb : (x == ("__debug__" : Str)) = false := by decide) (he : starEach (e :: es) X.env = (false, eval e X.env) :: starEach es X.env := by rfl) (hpl : (backTo pos (starEach es X.env)).any (·.1) = false := by rfl) :
    PE X (.Call (.Name x p) (e :: es) [] pos) (tCall sp dvs E t) := by
  intro pins s σ H Q I h
  refine wpAny_Call_Name_kw (ld_glob I hg hm ?_ hdb)
  refine PySem.W.callWith_K (h₀ := X.base) I.ok.mod.kin hk (thn (ha pos pins s σ H _ I h) fun us s1 ⟨vs, H1, I1, r, q⟩ => ⟨I1.kIn, ?_⟩) he hpl
  exact run_fn F hr hb hd hx I1 r q
structure Mk (K : PySem.W.Frag) (C f : Addr) : Prop where
  makes : PySem.W.makesIn K C = true
  init : PySem.W.findIn K (.ref C) "__init__" = some (some (.ref f))
  fn : PySem.W.isFn K (.ref f) = true
  kp : PySem.W.keepIn K (.ref C) = true
end
def PK (X : Cx) (kws : List Keyword) (t : TA) : Prop :=
  ∀ (pos : Pos) (pins : List (Addr × Obj)) (s : Shared) (σ : St) (H : Hp) (Q : List V → Hp → Prop), Inv X pins σ H s → t σ H Q → wpAny (model X.prog X.w) X.A (evalAll ((backToKw pos (keywordEach kws X.env)).map (·.2))) (AP X pins σ Q) X.xe s
section
variable {X : Cx} {CX : CXT} {k : Nat} {f C : Addr} {fd : FuncData} {ps ks : List Str} {sp : Sp} {E : XK} {x m : Str} {p pos apos kpos : Pos} {e o : Expr} {es : List Expr} {kws : List Keyword} {te ta : TE} {t tk : TA} {nm : Option Str}
structure KBinds (K : PySem.W.Frag) (fd : FuncData) (ps ks : List Str) (g : List Value → List Value → List Value) (gV : List V → List V → List V) : Prop where
  to : ∀ (s : Shared) (us ws : List Value), K.In s.heap → (g us ws).length = ps.length → BindsTo s fd ⟨us, ks.zip ws⟩ (ps.zip (g us ws))
  rel : ∀ {vs : List V} {us : List Value} {zs : List V} {ws : List Value}, Vals vs us → Vals zs ws → Vals (gV vs zs) (g us ws)
variable {g : List Value → List Value → List Value} {gV : List V → List V → List V}
end
structure FnScope (N P : List Str) (sc : Scope) : Prop where
  kind : sc.kind = .function
  co : sc.isCoroutine = false
  gen : sc.isGenerator = false
  nd : N.Nodup
  pre : N.take P.length = P
  par : ∀ x ∈ P, sc.names.lookup x = some .local ∨ sc.names.lookup x = some .cell
  nofree : ∀ y ∈ sc.names, y.2 ≠ .free
theorem bindL_out {kindOf : Str → Option NameKind} {x : Str} : ∀ {binds : List (Str × Value)} {m : Str → Option Value}, (∀ v, (x, v) ∉ binds) → bindL kindOf binds m x = m x
  | [], _, _ => rfl
  | (n, v) :: r, m, h => by
    unfold bindL
    rw [bindL_out fun w hw => h w (List.mem_cons_of_mem _ hw)]
    split
    · have : x ≠ n := by rintro rfl; exact h v List.mem_cons_self
      simp [this]
    · rfl
theorem bindC_out {kindOf : Str → Option NameKind} {x : Str} : ∀ {binds : List (Str × Value)} {m : Str → Option Value}, (∀ v, (x, v) ∉ binds) → bindC kindOf binds m x = m x
  | [], _, _ => rfl
  | (n, v) :: r, m, h => by
    unfold bindC
    rw [bindC_out fun w hw => h w (List.mem_cons_of_mem _ hw)]
    split
    · rfl
    · have : x ≠ n := by rintro rfl; exact h v List.mem_cons_self
      simp [this]
theorem bindL_get {kindOf : Str → Option NameKind} {x : Str} {v : Value} : ∀ {P : List Str} {vs : List Value} {i : Nat} {m : Str → Option Value}, P.Nodup → P[i]? = some x → vs[i]? = some v → kindOf x = some .local →
    bindL kindOf (P.zip vs) m x = some v
  | [], _, _, _, _, h, _, _ => by simp at h
  | _ :: _, [], _, _, _, _, h, _ => by simp at h
  | p :: P, w :: vs, 0, m, nd, h1, h2, hk => by
    simp at h1 h2; subst h1; subst h2
    show bindL kindOf ((p, w) :: P.zip vs) m p = _
    unfold bindL
    rw [bindL_out fun v hv => (List.nodup_cons.mp nd).1 (List.of_mem_zip hv).1, if_pos hk]
    simp
  | p :: P, w :: vs, i + 1, m, nd, h1, h2, hk => by
    show bindL kindOf ((p, w) :: P.zip vs) m x = _
    unfold bindL
    exact bindL_get (i := i) (List.nodup_cons.mp nd).2 (by simpa using h1) (by simpa using h2) hk
theorem bindC_get {kindOf : Str → Option NameKind} {x : Str} {v : Value} : ∀ {P : List Str} {vs : List Value} {i : Nat} {m : Str → Option Value}, P.Nodup → P[i]? = some x → vs[i]? = some v → kindOf x ≠ some .local →
    bindC kindOf (P.zip vs) m x = some v
  | [], _, _, _, _, h, _, _ => by simp at h
  | _ :: _, [], _, _, _, _, h, _ => by simp at h
  | p :: P, w :: vs, 0, m, nd, h1, h2, hk => by
    simp at h1 h2; subst h1; subst h2
    show bindC kindOf ((p, w) :: P.zip vs) m p = _
    unfold bindC
    rw [bindC_out fun v hv => (List.nodup_cons.mp nd).1 (List.of_mem_zip hv).1, if_neg hk]
    simp
  | p :: P, w :: vs, i + 1, m, nd, h1, h2, hk => by
    show bindC kindOf ((p, w) :: P.zip vs) m x = _
    unfold bindC
    exact bindC_get (i := i) (List.nodup_cons.mp nd).2 (by simpa using h1) (by simpa using h2) hk
def start (N : List Str) (vs : List V) : St := vs.map some ++ List.replicate (N.length - vs.length) none
def cxOf (CX : CXT) (P : Program) (w : World) (K : PySem.W.Frag) (mg : Str → Option Value) (base : Heap) (N : List Str) (qual : Str) (scope : Scope) (f : Addr) (cd : Value) (A : Around) (outer : List Env) (s : Shared) (H : Hp) (E : XK) : Cx where
  prog := P
  w := w
  K := K
  mg := mg
  base := base
  A := A.deeper (envOfC qual scope s.heap.objs.size f cd)
  N := N
  s₀ := s
  H₀ := H
  env := envOfC qual scope s.heap.objs.size f cd
  outer := outer
  stack := envOfC qual scope s.heap.objs.size f cd :: outer
  ex := []
  calm := true
  fn := fun _ => true
  pn := []
  xe := fun e s' => wpAny (model P w) (A.deeper (envOfC qual scope s.heap.objs.size f cd)) (leaving (envOfC qual scope s.heap.objs.size f cd) e) (fun _ s'' => CX outer H s E e s'') (fun e' s'' => CX outer H s E e' s'') s'
theorem cell_has {sc : Scope} {n : Nat} {x : Str} (h : sc.names.lookup x = some .cell) : ∃ c, (cellsFrom n sc.names []).lookup x = some c := by
  have q := PySem.W.cellsFrom_some sc.names n [] (.inl h)
  exact Option.isSome_iff_exists.mp q
theorem inv_start {CX : CXT} {P : Program} {w : World} {K : PySem.W.Frag} {mg : Str → Option Value} {base : Heap} {N ps : List Str} {qual : Str} {scope : Scope} {f : Addr} {cd : Value} {A : Around} {outer : List Env} {s s1 : Shared} {H : Hp} {E : XK} {us : List Value} {vs : List V}
    (S : FnScope N ps scope) (hd : A.handled = none) (e0 : Env0 P w K mg base A outer s H) (hl : vs.length = ps.length) (r : Vals vs us)
    (x : InCallC s s.heap.objs.size (bindL (envOfC qual scope s.heap.objs.size f cd).kindOf (ps.zip us) fun _ => none) (cellsFrom (s.heap.objs.size + 1) scope.names []) (bindC (envOfC qual scope s.heap.objs.size f cd).kindOf (ps.zip us) fun _ => none) s1) :
    Inv (cxOf CX P w K mg base N qual scope f cd A outer s H E) [] (start N vs) H s1 := by
  have hpl : ps.length ≤ N.length := by have := congrArg List.length S.pre; rw [List.length_take] at this; omega
  obtain ⟨h1, tk, rfl, hk⟩ := x.done
  have noA : ∀ b : Addr, b ∉ (cxOf CX P w K mg base N qual scope f cd A outer s H E).ex := fun b z => absurd (show b ∈ ([] : List Addr) from z) (by simp)
  refine ⟨⟨e0.mod, S.kind, rfl, rfl, Nat.le_refl _, fun y z c h1 h2 => ?_, fun y hy => ?_, fun y c _ h => ?_, fun _ => hd, Around.frames_deeper e0.frames, .inr ⟨rfl, rfl⟩, fun b z => absurd z (noA b), e0.bs, e0.bsz, fun b _ _ => noA b, fun b z => absurd z (noA b), e0.funs, e0.frf⟩,
    rfl, e0.bare, Un.kept hk, ⟨_, x.toInCall.ns, fun i y v h1 h2 h3 => ?_⟩, fun y c h => ⟨_, x.cell y c h⟩, e0.hok.fresh (Nat.le_refl _), fun y c h => ?_, fun p hp => absurd (show p ∈ ([] : List (Addr × Obj)) from hp) (by simp), e0.hok.kept hk, ?_⟩
  · exact name_of_addr x.apart (PySem.mem_of_lookup h1) (PySem.mem_of_lookup h2)
  · have hy : scope.names.lookup y = some .cell ∨ scope.names.lookup y = some .free := hy
    rcases hy with hy | hy
    · exact cell_has hy
    · exact absurd rfl (S.nofree _ (PySem.mem_of_lookup hy))
  · exact Nat.le_of_lt (x.above y c (PySem.mem_of_lookup h))
  · have hi : i < vs.length := by
      unfold start at h2
      by_cases hi : i < vs.length
      · exact hi
      · rw [List.getElem?_append_right (by simpa using hi)] at h2
        rw [List.getElem?_replicate] at h2
        split at h2 <;> cases h2
    have ha : vs[i]? = some v := by
      unfold start at h2
      rw [List.getElem?_append_left (by simpa using hi), List.getElem?_map] at h2
      cases e : vs[i]? with
      | none => rw [e] at h2; cases h2
      | some a => rw [e] at h2; cases h2; rfl
    obtain ⟨u, hu, rv⟩ := r.get ha
    have hp : ps[i]? = some y := by
      rw [← S.pre, List.getElem?_take_of_lt (by omega)]; exact h1
    have ndP : ps.Nodup := by rw [← S.pre]; exact S.nd.sublist (List.take_sublist _ _)
    refine ⟨u, rv, ?_⟩
    rcases S.par y (List.mem_of_getElem? hp) with k | k
    · exact .inl ⟨k, bindL_get ndP hp hu k⟩
    · obtain ⟨c, e⟩ := cell_has (n := s.heap.objs.size + 1) k
      refine .inr ⟨.inl k, c, e, ?_⟩
      have q := x.cell y c e
      rw [bindC_get ndP hp hu (by show scope.names.lookup y ≠ _; rw [k]; decide)] at q
      exact q
  · exact e0.hok.fresh (Nat.le_of_lt (x.above y c (PySem.mem_of_lookup h)))
  · unfold start
    show _ = N.length
    rw [List.length_append, List.length_map, List.length_replicate]
    omega
theorem fn_of {CX : CXT} {P : Program} {w : World} {K : PySem.W.Frag} {mg : Str → Option Value} {base : Heap} {k : Nat} {f : Addr} {name qual : Str} {params : Arguments} {body : List Stmt} {scope : Scope} {dV kV doc pm cdv ct oc : Value} {an od : Option Addr}
    {osl : Array (Option Value)} {N ps : List Str} {sp : Sp} (lk : K.lookup f = some ⟨oc, od, .func (PySem.W.fnOf name qual params body scope dV kV doc pm an cdv ct), osl⟩) (hcd : PySem.W.codeIn K cdv qual = true) (S : FnScope N ps scope)
    (len : ∀ vs H Q E, sp vs H Q E → vs.length = ps.length)
    (hbody : ∀ (A : Around) (outer : List Env) (s : Shared) (H : Hp) (vs : List V) (Q : VK) (E : XK), Room k (A.deeper (envOfC qual scope s.heap.objs.size f cdv)) → sp vs H Q E →
      ∃ t, PSs (cxOf CX P w K mg base N qual scope f cdv A outer s H E) body t ∧ t { nx := fun _ H' => Q .non H', rt := Q } (start N vs) H) :
    FnOk P w K mg base CX (k + 1) f (PySem.W.fnOf name qual params body scope dV kV doc pm an cdv ct) ps sp := by
  refine ⟨len, fun A outer s H args us vs Q E hr e0 hb r hsp => ?_⟩
  have hl := len _ _ _ _ hsp
  have KX : K.In s.heap := e0.mod.kin.keeps fun b o e => (e0.bs b o e).1
  have lim : s.heap.NoLimit := e0.mod.nolimit.keeps fun b o e => (e0.bs b o e).1
  have hkind : ∀ y ∈ ps.zip us, scope.names.lookup y.1 = some .local ∨ (scope.names.lookup y.1 = some .cell ∧ ((cellsFrom (s.heap.objs.size + 1) scope.names []).lookup y.1).isSome = true) := fun ⟨n, v⟩ hy => by
    rcases S.par n (List.of_mem_zip hy).1 with q | q
    · exact .inl q
    · exact .inr ⟨q, PySem.W.cellsFrom_some _ _ _ (.inl q)⟩
  refine codeAny_call_function hr.depth (KX _ _ lk) rfl S.co S.gen rfl (PySem.W.codeRec_of KX hcd) (hb _ _ _ _ ?_)
  refine wpAny_newFunctionEnv_cells S.kind hkind fun env he s1 x => ?_
  subst he
  refine ⟨lim.keeps x.toInCall.keep, codeAny_func ?_⟩
  obtain ⟨t, ht, hq⟩ := hbody A outer s H vs Q E (hr.deeper _) hsp
  have I : Inv (cxOf CX P w K mg base N qual scope f cdv A outer s H E) [] (start N vs) H s1 := inv_start S hr.hd e0 hl r x
  refine wpAny_mono (ht [] s1 (start N vs) H _ I hq) (fun fl s' hs => ?_) fun e s' hs => hs
  have fin : ∀ {σ' : St} {H' : Hp} {v : V} {u : Value}, Inv (cxOf CX P w K mg base N qual scope f cdv A outer s H E) [] σ' H' s' → RelV v u → Q v H' → CE outer P w H s Q u s' :=
    fun {σ' H' v u} J rv q => ⟨v, H', J.os, J.bare, J.base, J.hok, rv, q⟩
  cases fl with
  | ret u =>
    obtain ⟨v, σ', H', J, rv, q⟩ := hs
    exact fin J rv q
  | next =>
    obtain ⟨σ', H', J, q⟩ := hs
    exact fin (v := V.non) (u := Value.none) J rfl q
  | brk =>
    obtain ⟨_, _, _, q⟩ := hs
    exact False.elim q
  | cont =>
    obtain ⟨_, _, _, q⟩ := hs
    exact False.elim q
end L2
namespace L2
open PySem PySem.Spec PyProof.Rows
section
variable {X : Cx} {x : Str} {p pos : Pos} {e : Expr} {es : List Expr} {t : TA} {id T : String} {r : List V → Hp → VK → Prop}
def tCB (r : List V → Hp → VK → Prop) (t : TA) : TE := fun σ H Q => t σ H fun vs H1 => r vs H1 Q
theorem pe_callB (hc : CallR X (.builtin id) r) (hg : Gl X x) (hm : X.mg x = none) (hv : bootBuiltins x = some (.builtin id)) (ha : PA X (e :: es) t) (hn : x ≠ "__name__" := by decide) (hdb : (x == ("__debug__" : Str)) = false := by decide)
    (he : starEach (e :: es) X.env = (false, eval e X.env) :: starEach es X.env := by rfl) (hpl : (backTo pos (starEach es X.env)).any (·.1) = false := by rfl) : PE X (.Call (.Name x p) (e :: es) [] pos) (tCB r t) := by
  intro pins s σ H Q I h
  refine wpAny_Call_Name_kw (ld_blt I hg hm hv ?_ hn hdb)
  exact PyProof.Rows.callWith_builtin1 (thn (ha pos pins s σ H _ I h) fun us s1 ⟨vs, H1, I1, r1, q1⟩ => hc pins s1 σ H1 vs us Q I1 r1 q1) he hpl
theorem pe_callTy (hc : CallR X (.type T) r) (hg : Gl X x) (hm : X.mg x = none) (hv : bootBuiltins x = some (.type T)) (ha : PA X (e :: es) t) (hn : x ≠ "__name__" := by decide) (hdb : (x == ("__debug__" : Str)) = false := by decide)
    (he : starEach (e :: es) X.env = (false, eval e X.env) :: starEach es X.env := by rfl) (hpl : (backTo pos (starEach es X.env)).any (·.1) = false := by rfl) : PE X (.Call (.Name x p) (e :: es) [] pos) (tCB r t) := by
  intro pins s σ H Q I h
  refine wpAny_Call_Name_kw (ld_blt I hg hm hv ?_ hn hdb)
  exact PyProof.Rows.callWith_type1 (thn (ha pos pins s σ H _ I h) fun us s1 ⟨vs, H1, I1, r1, q1⟩ => hc pins s1 σ H1 vs us Q I1 r1 q1) he hpl
end
end L2
namespace HT
open PySem PyProof.Rows
section
open PySem.SeqAt
open PySem.AutoSeq1 (wpAny_loadPart')
open PySem.MeetsSeq PySem.MeetsSeq2 PySem.MeetsSeq3
end
section
variable {prog : Program} {w : World} {A : Around} {E : Value → Shared → Prop} {s : Shared}
def sIx (n d : Nat) : Option Int → Nat
  | none => d
  | some v => if v < 0 then (v + (n : Int)).toNat else min v.toNat n
theorem sIx_nat (n d k : Nat) : sIx n d (some (k : Int)) = min k n := by
  show (if (k : Int) < 0 then ((k : Int) + (n : Int)).toNat else min (k : Int).toNat n) = min k n
  rw [if_neg (by omega), Int.toNat_natCast]
end
end HT
namespace L2
open PySem PySem.Spec PyProof.Rows
abbrev TO := St → Hp → (Option Int → Hp → Prop) → Prop
def PO (X : Cx) (e : Option Expr) (t : TO) : Prop :=
  ∀ (pins : List (Addr × Obj)) (s : Shared) (σ : St) (H : Hp) (Q : Option Int → Hp → Prop), Inv X pins σ H s → t σ H Q →
    wpAny (model X.prog X.w) X.A (evalPart e X.env) (fun u s' => ∃ o H', Inv X pins σ H' s' ∧ IsPart u o ∧ Q o H') X.xe s
def tNoPart : TO := fun _ H Q => Q none H
def tPart (t : TE) : TO := fun σ H Q => t σ H fun x H1 => XI1 x fun i => Q (some i) H1
section
variable {X : Cx} {e : Expr} {te : TE} {lo hi : Option Expr} {tl th : TO} {pos p2 : Pos}
theorem po_none : PO X none tNoPart := by
  intro pins s σ H Q I h
  rw [evalPart_none]
  exact wpAny_pure ⟨none, H, I, .none, h⟩
theorem po_some (h : PE X e te) : PO X (some e) (tPart te) := by
  intro pins s σ H Q I hw
  rw [evalPart_some]
  refine thn (h pins s σ H _ I hw) fun u s1 ⟨x, H1, I1, r1, q1⟩ => ?_
  obtain ⟨i, rfl, q⟩ := q1
  obtain ⟨t, rfl⟩ := r1
  exact ⟨some i, H1, I1, .int i t, q⟩
def SlR (X : Cx) (r : V → Option Int → Option Int → Hp → VK → Prop) : Prop :=
  ∀ (pins : List (Addr × Obj)) (s : Shared) (σ : St) (H : Hp) (x : V) (v vl vu : Value) (lo hi : Option Int) (sl : Addr) (Q : VK), Inv X pins σ H s → RelV x v → s.heap.IsSliceOf sl vl vu .none → IsPart vl lo → IsPart vu hi → r x lo hi H Q →
    ∃ T id, typeLookup (.type T) "__getitem__" = pure (some (.builtin id)) ∧ s.TypeIs v T ∧ wpAny (model X.prog X.w) X.A (getItem v (.ref sl)) (EP X pins σ Q) X.xe s
theorem SlR.or {r r' : V → Option Int → Option Int → Hp → VK → Prop} (h : SlR X r) (h' : SlR X r') : SlR X (fun x lo hi H Q => r x lo hi H Q ∨ r' x lo hi H Q) := by
  intro pins s σ H x v vl vu lo hi sl Q I rx hs pl pu q
  rcases q with q | q
  · exact h pins s σ H x v vl vu lo hi sl Q I rx hs pl pu q
  · exact h' pins s σ H x v vl vu lo hi sl Q I rx hs pl pu q
def tSl (r : V → Option Int → Option Int → Hp → VK → Prop) (te : TE) (tl th : TO) : TE := fun σ H Q => te σ H fun x H1 => tl σ H1 fun l H2 => th σ H2 fun u H3 => r x l u H3 Q
theorem pe_slice {r : V → Option Int → Option Int → Hp → VK → Prop} (hr : SlR X r) (he : PE X e te) (hl : PO X lo tl) (hu : PO X hi th) : PE X (.Subscript e (.Slice lo hi none p2) pos) (tSl r te tl th) := by
  intro pins s σ H Q I h
  refine Subscript_ (thn (he pins s σ H _ I h) fun v s1 ⟨x, H1, I1, r1, q1⟩ => ?_)
  refine wpAny_Slice (thn (hl pins s1 σ H1 _ I1 q1) fun vl s2 ⟨l, H2, I2, pl, q2⟩ => thn (hu pins s2 σ H2 _ I2 q2) fun vu s3 ⟨u, H3, I3, pu, q3⟩ => ?_)
  rw [evalPart_none]
  refine wpAny_pure ?_
  have I4 : Inv X pins σ H3 { s3 with heap := s3.heap.push { cls := .type "slice", data := .fields #[vl, vu, .none] } } := I3.kept (t' := s3.toks) fun b ob q => Heap.get?_push_of_some _ q
  obtain ⟨T, id, hT, ht, hg⟩ := hr pins { s3 with heap := s3.heap.push { cls := .type "slice", data := .fields #[vl, vu, .none] } } σ H3 x v vl vu l u s3.heap.objs.size Q I4 r1 (Heap.IsSliceOf.new ..) pl pu q3
  show wpAny (model X.prog X.w) X.A (subscriptTail e (.Slice lo hi none p2) v (.ref s3.heap.objs.size)) (EP X pins σ Q) X.xe { s3 with heap := s3.heap.push { cls := .type "slice", data := .fields #[vl, vu, .none] } }
  exact tail_any (ops := [.ref s3.heap.objs.size, v]) ht hT hg (by with_unfolding_all rfl)
def cutV (xs : List V) (lo hi : Option Int) : List V := (xs.drop (HT.sIx xs.length 0 lo)).take (HT.sIx xs.length xs.length hi - HT.sIx xs.length 0 lo)
theorem cutV_length (xs : List V) (lo hi : Option Int) : (cutV xs lo hi).length ≤ xs.length := by
  unfold cutV
  rw [List.length_take, List.length_drop]
  omega
end
end L2
namespace L2
open PySem PySem.Spec PyProof.Rows
def ixN (n : Nat) (i : Int) : Option Nat := if 0 ≤ i then (if i < n then some i.toNat else none) else if -(n : Int) ≤ i then some (i + n).toNat else none
def atI {α : Type} (xs : List α) (i : Int) : Option α := (ixN xs.length i).bind fun j => xs[j]?
theorem ixN_seq {n : Nat} {i : Int} {j : Nat} (h : ixN n i = some j) : seqIndex? i n = some j ∧ j < n ∧ -(n : Int) ≤ i ∧ i < n := by
  unfold ixN at h
  by_cases h0 : 0 ≤ i
  · rw [if_pos h0] at h
    by_cases h1 : i < n
    · rw [if_pos h1] at h
      have e : i.toNat = j := Option.some.inj h
      exact ⟨by rw [seqIndex_of h0 h1, e], by omega, by omega, h1⟩
    · rw [if_neg h1] at h; cases h
  · rw [if_neg h0] at h
    by_cases h1 : -(n : Int) ≤ i
    · rw [if_pos h1] at h
      have e : (i + n).toNat = j := Option.some.inj h
      exact ⟨by rw [seqIndex_neg (by omega) h1, e], by omega, h1, by omega⟩
    · rw [if_neg h1] at h; cases h
theorem atI_get {α : Type} {xs : List α} {i : Int} {v : α} (h : atI xs i = some v) : ∃ j, seqIndex? i xs.length = some j ∧ xs[j]? = some v ∧ j < xs.length ∧ -(xs.length : Int) ≤ i ∧ i < xs.length := by
  unfold atI at h
  cases e : ixN xs.length i with
  | none => rw [e] at h; cases h
  | some j =>
    rw [e] at h
    obtain ⟨h1, h2, h3, h4⟩ := ixN_seq e
    exact ⟨j, h1, h, h2, h3, h4⟩
theorem atI_nat {α : Type} {xs : List α} {j : Nat} {v : α} (h : xs[j]? = some v) : atI xs (j : Int) = some v := by
  have hj : j < xs.length := (List.getElem?_eq_some_iff.mp h).1
  have e : ixN xs.length (j : Int) = some j := by
    unfold ixN
    rw [if_pos (by omega), if_pos (by omega)]; simp
  unfold atI; rw [e]; exact h
def PlainIx (b : Expr) : Prop := ∀ o i, subscripted b false o i = operate [o, i] (getItem o i)
def IxR (X : Cx) (r : R2) : Prop :=
  ∀ (value slice : Expr) (pins : List (Addr × Obj)) (s : Shared) (σ : St) (H : Hp) (x y : V) (v u : Value) (Q : VK), Inv X pins σ H s → RelV x v → RelV y u → r x y H Q →
    subscripted slice false v u = operate [v, u] (getItem v u) → wpAny (model X.prog X.w) X.A (subscriptTail value slice v u) (EP X pins σ Q) X.xe s
def MtR (X : Cx) (id : String) (r : V → List V → Hp → VK → Prop) : Prop :=
  ∀ (pins : List (Addr × Obj)) (s : Shared) (σ : St) (H : Hp) (x : V) (xs : List V) (v : Value) (us : List Value) (Q : VK), Inv X pins σ H s → RelV x v → Vals xs us → r x xs H Q →
    wpAny (model X.prog X.w) X.A (call (.builtin id) (v :: us)) (EP X pins σ Q) X.xe s
section
variable {X : Cx} {a b : Expr} {ta tb : TE} {pos : Pos}
theorem IxR.or {r r' : R2} (h : IxR X r) (h' : IxR X r') : IxR X (fun x y H Q => r x y H Q ∨ r' x y H Q) := by
  intro value slice pins s σ H x y v u Q I rx ry q hs
  rcases q with q | q
  · exact h value slice pins s σ H x y v u Q I rx ry q hs
  · exact h' value slice pins s σ H x y v u Q I rx ry q hs
theorem MtR.or {id : String} {r r' : V → List V → Hp → VK → Prop} (h : MtR X id r) (h' : MtR X id r') : MtR X id (fun x xs H Q => r x xs H Q ∨ r' x xs H Q) := by
  intro pins s σ H x xs v us Q I rx rs q
  rcases q with q | q
  · exact h pins s σ H x xs v us Q I rx rs q
  · exact h' pins s σ H x xs v us Q I rx rs q
theorem pe_ix {r : R2} (hr : IxR X r) (ha : PE X a ta) (hb : PE X b tb) (hs : PlainIx b) : PE X (.Subscript a b pos) (tOp r ta tb) := by
  intro pins s σ H Q I h
  exact Subscript_ (binT ha hb I h fun v u s2 x y H2 I2 rx ry q => hr a b pins s2 σ H2 x y v u Q I2 rx ry q (hs _ _))
inductive XIx (S : Addr → List V → Prop) (x y : V) (R : V → Prop) : Prop
  | mk (p : Addr) (xs : List V) (i : Int) (v : V) (e : x = .ref p) (e2 : y = .int i) (s : S p xs) (a : atI xs i = some v) (q : R v) : XIx S x y R
def rIxL (K : PySem.W.Frag) : R2 := fun x y H Q => XIx (SqL K H) x y fun v => Q v H
def rIxT (K : PySem.W.Frag) : R2 := fun x y H Q => XIx (SqT K H) x y fun v => Q v H
theorem ix_list : IxR X (rIxL X.K) := by
  intro value slice pins s σ H x y v u Q I rx ry h hs
  obtain ⟨p, xs, i, z, rfl, rfl, hq, he, q⟩ := h
  cases rx
  obtain ⟨t, rfl⟩ := ry
  obtain ⟨its, r, pl, hz⟩ := I.list hq
  obtain ⟨j, h1, h2, h3, h4, h5⟩ := atI_get he
  obtain ⟨w, ew, rw'⟩ := r.get h2
  have hl := r.length
  have hn := line63
  have fin : EP X pins σ Q w s := ⟨z, H, I, rw', q⟩
  by_cases h0 : 0 ≤ i
  · have hj : i.toNat = j := by
      rw [seqIndex_of h0 h5] at h1
      exact Option.some.inj h1
    exact item_listR pl.isList h0 (by omega) (by rw [hj]; simpa using ew) fin hs
  · have hj : (i + (its.toArray.size : Int)).toNat = j := by
      rw [seqIndex_neg (by omega) h4] at h1
      rw [List.size_toArray, ← hl]
      exact Option.some.inj h1
    exact subscriptTail_builtinR (x := w) pl.isList.typeIs slot_list_getitem.lookup
      (wpAny_getItem_list_neg (Q := fun r s' => r = w ∧ EP X pins σ Q r s') pl.isList (by omega) (by rw [List.size_toArray] <;> omega) (by omega) (by rw [hj]; simpa using ew) ⟨rfl, fin⟩) hs
theorem ix_tup : IxR X (rIxT X.K) := by
  intro value slice pins s σ H x y v u Q I rx ry h hs
  obtain ⟨p, xs, i, z, rfl, rfl, hq, he, q⟩ := h
  cases rx
  obtain ⟨t, rfl⟩ := ry
  obtain ⟨its, r, pl, hz⟩ := I.tuple hq
  obtain ⟨j, h1, h2, h3, h4, h5⟩ := atI_get he
  obtain ⟨w, ew, rw'⟩ := r.get h2
  have hl := r.length
  have hn := line63
  have fin : EP X pins σ Q w s := ⟨z, H, I, rw', q⟩
  exact subscriptTail_builtinR (x := w) pl.typeIs slot_tuple_getitem.lookup
    (getItem_tuple (j := j) (Q := fun r s' => r = w ∧ EP X pins σ Q r s') pl (by omega) (by omega) (by rw [List.size_toArray, ← hl]; exact h1) (by simpa using ew) ⟨rfl, fin⟩) hs
theorem Inv.lst {pins : List (Addr × Obj)} {σ : St} {H : Hp} {s : Shared} {p : Addr} {xs : List V} (I : Inv X pins σ H s) (h : H p = some (.lst xs)) :
    ∃ (its : List Value) (n : Nat), Vals xs its ∧ s.heap.get? p = some { cls := .type "list", data := .seq its.toArray n } ∧ xs.length ≤ sizeLine := by
  obtain ⟨z, its, n, r, e⟩ := I.hok p _ h
  exact ⟨its, n, r, e, z⟩
theorem slice_bounds (lo hi : Option Int) (n : Nat) : (sliceBounds lo hi none n).1 = ((HT.sIx n 0 lo : Nat) : Int) ∧ (sliceBounds lo hi none n).2.1 = ((HT.sIx n n hi : Nat) : Int) ∧ (sliceBounds lo hi none n).2.2 = 1 := by
  refine ⟨?_, ?_, rfl⟩
  · cases lo with
    | none => simp [sliceBounds, HT.sIx]
    | some i =>
      simp only [sliceBounds, HT.sIx, Option.getD_none, show (1 : Int) > 0 by decide, if_true]
      by_cases h : i < 0
      · simp only [h, if_true] <;> omega
      · simp only [h, if_false] <;> omega
  · cases hi with
    | none => simp [sliceBounds, HT.sIx]
    | some i =>
      simp only [sliceBounds, HT.sIx, Option.getD_none, show (1 : Int) > 0 by decide, if_true]
      by_cases h : i < 0
      · simp only [h, if_true] <;> omega
      · simp only [h, if_false] <;> omega
theorem slicePick_cut (its : List Value) (lo hi : Option Int) : slicePick its.toArray lo hi none = ((its.drop (HT.sIx its.length 0 lo)).take (HT.sIx its.length its.length hi - HT.sIx its.length 0 lo)).toArray := by
  obtain ⟨h1, h2, h3⟩ := slice_bounds lo hi its.toArray.size
  unfold slicePick
  rw [h1, h2, h3]
  simp only [sliceRange_one, pick_run, List.size_toArray] <;> rfl
def rSlL (K : PySem.W.Frag) : V → Option Int → Option Int → Hp → VK → Prop := fun x lo hi H Q => XSq x (SqL K H) fun xs => ∀ p, H p = none → Q (.ref p) (upd H p (.lst (cutV xs lo hi)))
theorem sl_list : SlR X (rSlL X.K) := by
  intro pins s σ H x v vl vu lo hi sl Q I rx hs pl pu h
  obtain ⟨a, xs, rfl, hx, q⟩ := h
  cases rx
  obtain ⟨its, r, ht, hz⟩ := I.list hx
  have hlen := r.length
  refine ⟨"list", _, slot_list_getitem.lookup, ht.isList.typeIs, ?_⟩
  refine wpAny_getItem_list_slice ht.isList hs pl pu .none (by simp) ?_ (by rw [List.size_toArray] <;> omega)
  rw [slicePick_cut, ← hlen]
  refine ⟨.ref s.heap.objs.size, _, I.laid (t' := s.toks) (o := .lst (cutV xs lo hi)) (fun b ob q => Heap.get?_push_of_some _ q) (Nat.le_refl _) ?_, rfl, q _ (I.hok.fresh (Nat.le_refl _))⟩
  exact ⟨Nat.le_trans (cutV_length xs lo hi) hz, _, 0, (r.drop (HT.sIx xs.length 0 lo)).take (HT.sIx xs.length xs.length hi - HT.sIx xs.length 0 lo), Heap.get?_push_size _ rfl⟩
def flatV : V → Bool
  | .non => true
  | .bl _ => true
  | .int _ => true
  | .str _ => true
  | _ => false
def eqV : V → V → Bool
  | .non, .non => true
  | .bl a, .bl b => a == b
  | .bl a, .int b => (if a then 1 else 0) == b
  | .int a, .bl b => a == (if b then 1 else 0)
  | .int a, .int b => a == b
  | .str a, .str b => a == b
  | _, _ => false
theorem eqAt_V {A : Around} {s : Shared} {y x : V} {u v : Value} (ry : RelV y u) (rx : RelV x v) (fy : flatV y = true) (fx : flatV x = true) : SeqAt.EqAt A s u v (eqV y x) := by
  cases y with
  | non =>
    cases ry
    cases x with
    | non => cases rx; exact SeqAt.EqAt.same _
    | bl b => cases rx; exact SeqAt.EqAt.none_bool b
    | int b => obtain ⟨t, rfl⟩ := rx; exact SeqAt.EqAt.none_int b t
    | str b => obtain ⟨t, rfl⟩ := rx; exact SeqAt.EqAt.none_str b t
    | _ => exact absurd (show false = true from fx) Bool.false_ne_true
  | bl a =>
    cases ry
    cases x with
    | non => cases rx; exact SeqAt.EqAt.bool_none a
    | bl b => cases rx; exact SeqAt.EqAt.bool_bool a b
    | int b => obtain ⟨t, rfl⟩ := rx; exact SeqAt.EqAt.bool_int a b t
    | str b => obtain ⟨t, rfl⟩ := rx; exact SeqAt.EqAt.bool_str a b t
    | _ => exact absurd (show false = true from fx) Bool.false_ne_true
  | int a =>
    obtain ⟨t', rfl⟩ := ry
    cases x with
    | non => cases rx; exact SeqAt.EqAt.int_none a t'
    | bl b => cases rx; exact SeqAt.EqAt.int_bool a t' b
    | int b => obtain ⟨t, rfl⟩ := rx; exact SeqAt.EqAt.int_int a t' b t
    | str b => obtain ⟨t, rfl⟩ := rx; exact SeqAt.EqAt.int_str a t' b t
    | _ => exact absurd (show false = true from fx) Bool.false_ne_true
  | str a =>
    obtain ⟨t', rfl⟩ := ry
    cases x with
    | non => cases rx; exact SeqAt.EqAt.str_none a t'
    | bl b => cases rx; exact SeqAt.EqAt.str_bool a t' b
    | int b => obtain ⟨t, rfl⟩ := rx; exact SeqAt.EqAt.str_int a t' b t
    | str b => obtain ⟨t, rfl⟩ := rx; exact SeqAt.EqAt.str_str a t' b t
    | _ => exact absurd (show false = true from fx) Bool.false_ne_true
  | _ => exact absurd (show false = true from fy) Bool.false_ne_true
inductive XIn (S : Addr → List V → Prop) (x y : V) (R : List V → Prop) : Prop
  | mk (p : Addr) (xs : List V) (e : y = .ref p) (s : S p xs) (f : flatV x = true) (g : xs.all flatV = true) (q : R xs) : XIn S x y R
theorem call_len_seq : CallR X (.builtin "len") (fun xs H Q => XLen xs (fun p ys => SqL X.K H p ys ∨ SqT X.K H p ys) fun ys => Q (.int ys.length) H) := by
  intro pins s σ H xs us Q I r h
  obtain ⟨p, ys, rfl, hq, q⟩ := h
  obtain ⟨u, rfl, rx⟩ := vals1 r
  cases rx
  have hn := line63
  rcases hq with hq | hq
  · obtain ⟨its, r', pl, hz⟩ := I.list hq
    have hlen := r'.length
    exact Calls.call_len_list pl.isList (by simp only [List.size_toArray] <;> omega) ⟨.int ys.length, H, I.tok _, ⟨s.toks + 1, by rw [List.size_toArray, hlen]⟩, q⟩
  · obtain ⟨its, r', pl, hz⟩ := I.tuple hq
    have hlen := r'.length
    exact len_tuple pl (by simp only [List.size_toArray] <;> omega) ⟨.int ys.length, H, I.tok _, ⟨s.toks + 1, by rw [List.size_toArray, hlen]⟩, q⟩
theorem CallR.or {f : Value} {r r' : List V → Hp → VK → Prop} (h : CallR X f r) (h' : CallR X f r') : CallR X f (fun xs H Q => r xs H Q ∨ r' xs H Q) := by
  intro pins s σ H xs us Q I rs q
  rcases q with q | q
  · exact h pins s σ H xs us Q I rs q
  · exact h' pins s σ H xs us Q I rs q
theorem call_list_of : CallR X (.type "list") (fun xs H Q => XLen xs (fun p ys => SqL X.K H p ys ∨ SqT X.K H p ys) fun ys => ∀ l, H l = none → Q (.ref l) (upd H l (.lst ys))) := by
  intro pins s σ H xs us Q I r h
  obtain ⟨p, ys, rfl, hq, q⟩ := h
  obtain ⟨u, rfl, rx⟩ := vals1 r
  cases rx
  have fin : ∀ (its : List Value), Vals ys its → ys.length ≤ sizeLine → ∀ (h' : Heap) (c' : Nat), (∀ b o', s.heap.get? b = some o' → h'.get? b = some o') →
      h'.get? s.heap.objs.size = some { cls := .type "list", dict := none, data := .seq its.toArray c', slots := #[] } → EP X pins σ Q (.ref s.heap.objs.size) { s with heap := h' } := fun its r' hz h' c' kp e =>
    ⟨.ref s.heap.objs.size, _, I.laid (t' := s.toks) kp (Nat.le_refl _) (show ObjOk X.prog X.w _ h' _ (.lst ys) from ⟨hz, its, c', r', e⟩), rfl, q _ (I.hok.fresh (Nat.le_refl _))⟩
  rcases hq with hq | hq
  · obtain ⟨its, r', pl, hz⟩ := I.list hq
    have hlen := r'.length
    obtain ⟨o, ho, hc, n, hd⟩ := pl.isList
    exact call_list_seq p (.inl rfl) ho hc hd (fun h' c' kp e => fin its r' hz h' c' kp e) (by simp only [List.size_toArray] <;> omega)
  · obtain ⟨its, r', pl, hz⟩ := I.tuple hq
    have hlen := r'.length
    obtain ⟨o, ho, hc, n, hd⟩ := pl
    exact call_list_seq p (.inr rfl) ho hc hd (fun h' c' kp e => fin its r' hz h' c' kp e) (by simp only [List.size_toArray] <;> omega)
def tyV (K : PySem.W.Frag) (T : String) (x : V) (H : Hp) : Prop := match x with
  | .str _ => T = "str"
  | .int _ => T = "int"
  | .ref p => (T = "list" ∧ ∃ xs, SqL K H p xs) ∨ (T = "tuple" ∧ ∃ o, K.lookup p = some o ∧ o.cls = .type "tuple" ∧ o.dict = none) ∨
      (T = "dict" ∧ ((∃ kvs, H p = some (.dK kvs)) ∨ ∃ kvs, H p = some (.dT kvs))) ∨ (T = "set" ∧ ∃ S n, H p = some (.set S n))
  | _ => False
theorem tyV_is {pins : List (Addr × Obj)} {σ : St} {H : Hp} {s : Shared} {T : String} {x : V} {v : Value} (I : Inv X pins σ H s) (r : RelV x v) (ty : tyV X.K T x H) :
    s.TypeIs v T ∧ ∀ a, v = .ref a → ∃ ob, s.heap.get? a = some ob ∧ ob.dict = none := by
  cases x with
  | str z =>
    obtain ⟨t, rfl⟩ := r
    cases (show T = "str" from ty)
    exact ⟨typeIs_str s z t, fun _ e => nomatch e⟩
  | int i =>
    obtain ⟨t, rfl⟩ := r
    cases (show T = "int" from ty)
    exact ⟨typeIs_int s i t, fun _ e => nomatch e⟩
  | ref p =>
    cases r
    rcases ty with ⟨rfl, xs, hq⟩ | ⟨rfl, o, hk, hc, hd⟩ | ⟨rfl, hk⟩ | ⟨rfl, S, n, hk⟩
    · obtain ⟨its, _, pl, _⟩ := I.list hq
      refine ⟨pl.isList.typeIs, fun a e => ?_⟩
      cases e
      obtain ⟨o, n, e, c, hd, _⟩ := pl
      exact ⟨o, e, hd⟩
    · refine ⟨⟨o, I.kIn p o hk, hc⟩, fun a e => ?_⟩
      cases e
      exact ⟨o, I.kIn _ o hk, hd⟩
    · have z : ∃ o, s.heap.get? p = some o ∧ o.ExactDict := by
        rcases hk with ⟨kvs, hk⟩ | ⟨kvs, hk⟩
        · obtain ⟨_, _, _, _, o, _, _, e, ex, _⟩ := I.hok p _ hk
          exact ⟨o, e, ex⟩
        · obtain ⟨_, _, _, _, o, _, _, e, ex, _⟩ := I.hok p _ hk
          exact ⟨o, e, ex⟩
      obtain ⟨o, e, ex⟩ := z
      refine ⟨⟨o, e, ex.1⟩, fun a e2 => ?_⟩
      cases e2
      exact ⟨o, e, ex.2.1⟩
    · obtain ⟨o, _, _, _, e, ex, _⟩ := I.hok p _ hk
      refine ⟨⟨o, e, ex.1⟩, fun a e2 => ?_⟩
      cases e2
      exact ⟨o, e, ex.2.1⟩
  | _ => exact False.elim ty
def tBM (K : PySem.W.Frag) (T : String) (r : V → List V → Hp → VK → Prop) (to : TE) (t : TA) : TE := fun σ H Q => to σ H fun x H1 => tyV K T x H1 ∧ t σ H1 fun xs H2 => r x xs H2 Q
variable {o e : Expr} {es : List Expr} {to : TE} {t : TA} {name : Str} {apos cpos : Pos} {T id : String} {r : V → List V → Hp → VK → Prop}
theorem pe_bm (pa : PlainAttrs T) (slot : Slot T name id) (hty : typeOf (.builtin id) = pure (.type "method_descriptor")) (hm : MtR X id r) (ho : PE X o to) (ha : PA X (e :: es) t)
    (hbase : attributeBase o name X.env (eval o X.env) = eval o X.env := by rfl)
    (hfew : ((backTo cpos (starEach (e :: es) X.env)).all (fun x => !x.1) && (backToKw cpos (keywordEach [] X.env)).all (fun x => x.1.isSome)
      && decide ((e :: es).length + ([] : List Keyword).length + (if ([] : List Keyword).isEmpty then 0 else 1) < 30)) = true := by rfl)
    (hline : (apos.endLine == cpos.line) = true := by rfl) (hs : starEach (e :: es) X.env = (false, eval e X.env) :: starEach es X.env := by rfl) (hplain : (backTo cpos (starEach es X.env)).any (·.1) = false := by rfl) :
    PE X (.Call (.Attribute o name apos) (e :: es) [] cpos) (tBM X.K T r to t) := by
  intro pins s σ H Q I h
  refine wpAny_Call_method_late hbase hfew hline rfl (thn (ho pins s σ H _ I h) fun v s1 ⟨x, H1, I1, r1, ty, q1⟩ => ?_)
  obtain ⟨h1, h2⟩ := tyV_is I1 r1 ty
  refine ⟨T, id, pa, slot, hty, h1, h2, ?_⟩
  have hA := ha cpos pins s1 σ H1 _ I1 q1
  rw [hs] at hA ⊢
  refine Calls.callWith_builtin (by show (false || (backTo cpos (starEach es X.env)).any (·.1)) = false; rw [hplain] <;> rfl) (Calls.evalArgs_plain ?_)
  exact thn hA fun us s2 ⟨vs, H2, I2, r2, q2⟩ => hm pins s2 σ H2 x vs v us Q I2 r1 r2 q2
/- xs.append(e), list.index on a module's tuple .. are MtR facts of 06m -/
end
end L2
namespace L2
open PySem PySem.Spec PyProof.Rows
def MtM (X : Cx) (id : String) (r : V → List V → Hp → VK → Prop) : Prop :=
  ∀ (pins : List (Addr × Obj)) (s : Shared) (σ : St) (H : Hp) (x : V) (xs : List V) (v : Value) (us : List Value) (Q : VK), Inv X pins σ H s → RelV x v → Vals xs us → r x xs H Q →
    wpAny (model X.prog X.w) X.A (call (.builtin id) (v :: us)) (EP X pins σ Q) X.xe s
theorem Vals.one : ∀ {x : V} {us : List Value}, Vals [x] us → ∃ u, us = [u] ∧ RelV x u
  | _, _, .cons r .nil => ⟨_, rfl, r⟩
theorem Vals.two : ∀ {x y : V} {us : List Value}, Vals [x, y] us → ∃ u v, us = [u, v] ∧ RelV x u ∧ RelV y v
  | _, _, _, .cons r (.cons q .nil) => ⟨_, _, rfl, r, q⟩
theorem Vals.zero : ∀ {us : List Value}, Vals [] us → us = []
  | _, .nil => rfl
theorem Vals.eraseIdx : ∀ {xs : List V} {us : List Value} (i : Nat), Vals xs us → Vals (xs.eraseIdx i) (us.eraseIdx i)
  | _, _, _, .nil => .nil
  | _, _, 0, .cons _ t => t
  | _, _, i + 1, .cons r t => .cons r (Vals.eraseIdx i t)
section
variable {X : Cx} {pins : List (Addr × Obj)} {σ : St} {H : Hp} {s : Shared} {l b : Addr} {xs ys zs : List V}
theorem Inv.lset {its its' : List Value} {n : Nat} {f : Array Value → Array Value} {t' : Nat} (I : Inv X pins σ H s) (hH : H l = some (.lst xs))
    (e : s.heap.get? l = some { cls := .type "list", data := .seq its.toArray n }) (hf : f its.toArray = its'.toArray) (hv : Vals ys its') (hz : ys.length ≤ sizeLine) :
    Inv X pins σ (upd H l (.lst ys)) { s with heap := s.heap.update l (Obj.mapSeq f), toks := t' } := by
  have q := PySem.IsL.update e f
  rw [hf] at q
  refine I.write (x := l) (e := l) (by rw [hH]; exact trivial) (.inl rfl) (fun b' u hb hu => (Heap.get?_update_other s.heap (Obj.mapSeq f) (Ne.symm hb)).trans hu) ⟨_, q⟩ ?_
  exact ⟨hz, its', _, hv, q⟩
theorem Inv.fresh (I : Inv X pins σ H s) : H s.heap.objs.size = none := I.hok.fresh (Nat.le_refl _)
theorem Inv.lstM (I : Inv X pins σ H s) (hH : H l = some (.lst xs)) : xs.length ≤ sizeLine ∧ ∃ (its : List Value) (n : Nat), Vals xs its ∧ xs.length = its.length ∧ s.heap.get? l = some { cls := .type "list", data := .seq its.toArray n } := by
  obtain ⟨z, its, n, r, e⟩ := I.hok l _ hH
  exact ⟨z, its, n, r, r.length, e⟩
end
section
variable {X : Cx}
inductive XApp (H : Hp) (x : V) (vs : List V) (R : Addr → List V → V → Prop) : Prop
  | mk (l : Addr) (xs : List V) (y : V) (e : x = .ref l) (e2 : vs = [y]) (h : H l = some (.lst xs)) (z : xs.length < sizeLine) (q : R l xs y) : XApp H x vs R
def rAppend : V → List V → Hp → VK → Prop := fun x vs H Q => XApp H x vs fun l xs y => Q .non (upd H l (.lst (xs ++ [y])))
theorem mt_append : MtM X "list.append" rAppend := by
  intro pins s σ H x vs v us Q I rx rv h
  obtain ⟨l, xs, y, rfl, rfl, hH, hz, q⟩ := h
  cases rx
  obtain ⟨u, rfl, ru⟩ := rv.one
  obtain ⟨z, its, n, r, hl, e⟩ := I.lstM hH
  refine call_meets F.slot_list_append ⟨_, e, rfl⟩ F.entry_list_append (F.args_list_append_2 _ _) (PySem.list_append l its.toArray n u (by rw [List.size_toArray]; omega)) ⟨e, ?_⟩
  refine ⟨.non, _, I.lset (its' := its ++ [u]) hH e (by simp) (r.append (.cons ru .nil)) ?_, rfl, q⟩
  rw [List.length_append, List.length_singleton]
  omega
end
section
variable {prog : Program} {w : World} {A : Around} {E : Value → Shared → Prop} {s : Shared}
set_option maxRecDepth 100000 in
end
section
variable {X : Cx}
end
end L2
namespace Att
open PySem PySem.W PySem.Calls PyProof.Rows
theorem ints_of_wellAll {P : Params} {h : Heap} : ∀ (ns : List Int) (vs : List Value), WellAll P h vs (ns.map WData.int) → IntsAre vs ns := by
  intro ns
  induction ns with
  | nil =>
    intro vs w
    rw [List.map_nil] at w
    cases w
    exact .nil
  | cons n ns ih =>
    intro vs w
    rw [List.map_cons] at w
    cases w with
    | cons a b =>
      cases a
      exact .cons _ _ (ih _ b)
theorem script_of {l : OpenLaw} {n : Nat} (hn : l.most = some n) {P : Params} {h : Heap} {args : List WData} {vals : List Value}
    (hpre : l.row.toRowW.claim.pre args = true) (hwl : WellAll P h vals args) :
    ∃ a vs ns, vals = [Value.ref a] ∧ args = [WData.list (ns.map WData.int)] ∧ h.get? a = some { cls := .type "list", data := .seq vs.toArray } ∧ IntsAre vs ns ∧ ns.length ≤ n := by
  have hsh : WShape.hasAll [] args [.list .int] = true := (pre_splitW hpre).1
  have hc : l.pre.holds [] { args := args } = true := (pre_splitW hpre).2
  obtain ⟨d, r, rfl, h1, h2⟩ := hasAllW_cons hsh
  obtain rfl := hasAllW_nil h2
  obtain ⟨xs, rfl, h3⟩ := hasW_list h1
  obtain ⟨ns, rfl⟩ := items_int h3
  have hlen : ns.length ≤ n := by
    unfold OpenLaw.pre at hc
    have h4 : (WTm.not (.lt (.lit (.int (n : Int))) (.len (.arg 0)))).holds [] { args := [.list (ns.map .int)] } = true := by
      have h4 := (holds_andW hc).1
      rw [hn] at h4
      exact h4
    have h5 := condW_of h4 (w_not (w_lt w_lit (w_len_list (w_arg rfl))))
    rw [List.length_map] at h5
    refine Nat.le_of_not_lt fun q => ?_
    have q' : (n : Int) < ((ns.length : Nat) : Int) := by omega
    first
      | (rw [decide_eq_true q'] at h5; exact absurd h5 (by decide))
      | (simp at h5; omega)
  cases hwl with
  | cons w1 w2 =>
    cases w2
    cases w1 with
    | list ho hall => exact ⟨_, _, ns, rfl, rfl, ho, ints_of_wellAll ns _ hall, hlen⟩
theorem post_true (l : OpenLaw) (args : List WData) : l.row.toRowW.claim.post args (.bool true) args = true :=
  postW_of (r := l.row.toRowW) (X := (true == true))
    (show WShape.has [] (.bool true) .bool = true by first | rfl | decide | simp [WShape.has, WShape.arms, WShape.armsAll])
    (show (WTm.eq .res (.lit (.bool true))).value [] { args := args, res := some (.bool true), after := args } = some (.bool (true == true)) from w_eq_bool (w_res rfl) w_lit) rfl
theorem attach_call {l : OpenLaw} {n : Nat} {q : Program} {loose : List Str} {XP : (Str → Option Value) → Heap → Prop} {YP : World → Heap → Prop} {d : DefRec}
    (hn : l.most = some n) (hdf : d.params.defaults = [])
    (call : ∀ (w : World) (s₀ s₁ : Shared) (mg mb : Str → Option Value) (fa : Addr) (o : Obj) (pm cd doc : Value) (a : Addr) (vs : List Value) (ns : List Int),
      Ground q loose [] XP w s₀ mg mb s₁.heap → YP w s₁.heap →
      s₁.heap.get? fa = some o → o.data = .func (docDef d.name d.params d.body d.scope pm cd doc) → s₁.heap.CodeRec cd d.name → mg d.name = some (.ref fa) →
      s₁.heap.get? a = some { cls := .type "list", data := .seq vs.toArray } → IntsAre vs ns → ns.length ≤ n → s₁.gens = #[] →
      codeAny (model l.prog w) callerA (.call (.ref fa) ⟨[.ref a], []⟩) (fun r s' => r = .ok (.ret (.bool true)) ∧ OldK s₁.heap s'.heap ∧ s'.os = s₁.os ∧ AllBare s'.gens) s₁) :
    WalkO q loose XP YP l.row.toRowW d [] (fun f vs => PySem.call f vs) := by
  intro w s₀ s₁ mg mb G Y fa o pm cd doc dV kV ho hd hcd hD hmg hg args vals as hpre hlay hrd hwl hlo
  obtain rfl : dV = .none := Dflts.none hD hdf
  obtain rfl : kV = .none := Dflts.noKw hD
  obtain ⟨a, vs, ns, rfl, rfl, hobj, hints, hlen⟩ := script_of hn hpre hwl
  refine enter_call (codeAny_mono (call w s₀ s₁ mg mb fa o pm cd doc a vs ns G Y ho (fd_plain hd) hcd hmg hobj hints hlen hg) fun r s' hq => ?_)
  obtain ⟨rfl, h2, h3, h4⟩ := hq
  exact ⟨.inl ⟨.bool true, .bool true, [], rfl, fun _ => rfl, .bool true, post_true l _, fun _ => ⟨List.Pairwise.nil, fun _ hm => (nomatch hm)⟩⟩, h2, h3, h4⟩
section
variable {prog : Program} {w : World} {A : Around} {E : Value → Shared → Prop} {s : Shared} {K : Frag}
def noObjs (h : Heap) : Heap := { h with objs := #[] }
theorem noObjs_get (h : Heap) (b : Addr) : (noObjs h).get? b = none := by
  cases e : (noObjs h).get? b with
  | none => rfl
  | some o => exact absurd (Heap.lt_size e) (Nat.not_lt_zero _)
def ledger (h : Heap) (L d : Addr) : List (Addr × Obj) := (List.range h.objs.size).filterMap fun a => if a = L ∨ a = d then none else (h.get? a).map fun o => (a, o)
theorem mem_ledger {h : Heap} {L d a : Addr} {o : Obj} : (a, o) ∈ ledger h L d ↔ a ≠ L ∧ a ≠ d ∧ h.get? a = some o := by
  unfold ledger
  rw [List.mem_filterMap]
  constructor
  · rintro ⟨b, _, e⟩
    split at e
    · cases e
    · rename_i hb
      obtain ⟨o', ho, e'⟩ := Option.map_eq_some_iff.mp e
      cases e'
      exact ⟨fun q => hb (.inl q), fun q => hb (.inr q), ho⟩
  · rintro ⟨n1, n2, ho⟩
    refine ⟨a, List.mem_range.mpr (Heap.lt_size ho), ?_⟩
    rw [if_neg (show ¬ (a = L ∨ a = d) from fun q => q.elim n1 n2), ho] <;> rfl
theorem news_ledger {h : Heap} {L d : Addr} {od : Obj} (hne : d ≠ L) (ho : h.get? d = some od) : News (noObjs h) L h ([] ++ (d, od) :: ledger h L d) := by
  rintro ⟨a, o⟩ hp
  rcases List.mem_cons.mp hp with e | hp
  · cases e
    exact ⟨ho, hne, noObjs_get _ _⟩
  · obtain ⟨n1, n2, e⟩ := mem_ledger.mp hp
    exact ⟨e, n1, noObjs_get _ _⟩
theorem fr_all {h : Heap} {L : Addr} {m : Str → Option Value} (n : h.Ns L m) : Fr (noObjs h) L h m :=
  ⟨n, fun b o e => (by rw [noObjs_get] at e; cases e), Nat.zero_le _⟩
end
end Att
namespace L2
open PySem PySem.Spec PyProof.Rows
theorem vals_ints : ∀ {vs : List Value} {ns : List Int}, IntsAre vs ns → Vals (ns.map V.int) vs
  | _, _, .nil => .nil
  | _, _, .cons n t h => .cons ⟨t, rfl⟩ (vals_ints h)
def Only (H : Hp) : Prop := ∀ b, H b = none ∨ ∃ o xs, H b = some (.frz o (.lst xs))
theorem law_call {P : Program} {w : World} {K : PySem.W.Frag} {mg mb : Str → Option Value} {CX : CXT} {k : Nat} {fa a : Addr} {fd : FuncData} {x : Str} {sp : Sp} {s₁ : Shared} {vs : List Value} {ns : List Int}
    (KX : K.In s₁.heap) (hns : s₁.heap.Ns mainGlobals mg) (hb : s₁.heap.Ns builtinsNs mb) (hbb : ∀ x : Str, x ≠ "__name__" → mb x = bootBuiltins x) (hlim : s₁.heap.NoLimit) (hg : s₁.gens = #[])
    (ha : s₁.heap.get? a = some { cls := .type "list", data := .seq vs.toArray }) (hi : IntsAre vs ns) (hl : ns.length ≤ sizeLine) (hr : Room k callerA)
    (F : ∀ base : Heap, K.In base → base.Ns mainGlobals mg → FnOk P w K mg base CX k fa fd [x] sp) (hbind : ∀ (s : Shared) (u : Value), BindsTo s fd ⟨[u], []⟩ [(x, u)])
    (hsp : ∀ H : Hp, Only H → SqL K H a (ns.map V.int) → sp [.ref a] H (fun v _ => v = .bl true) fun _ _ _ => False)
    (hCX : ∀ H e s', CX [] H s₁ (fun _ _ _ => False) e s' → False) :
    codeAny (model P w) callerA (.call (.ref fa) ⟨[.ref a], []⟩) (fun r s' => r = .ok (.ret (.bool true)) ∧ OldK s₁.heap s'.heap ∧ s'.os = s₁.os ∧ AllBare s'.gens) s₁ := by
  have rv := vals_ints hi
  have lenV := hi.length
  have core : ∀ H : Hp, Only H → SqL K H a (ns.map V.int) → HOk P w H s₁.heap → (∀ b, H b ≠ none → b = a) → (H a ≠ none → K.lookup a = none) →
      codeAny (model P w) callerA (.call (.ref fa) ⟨[.ref a], []⟩) (fun r s' => r = .ok (.ret (.bool true)) ∧ OldK s₁.heap s'.heap ∧ s'.os = s₁.os ∧ AllBare s'.gens) s₁ := by
    intro H hO hS hok hA hK
    have base_of : ∀ {b : Addr} {o : Obj}, s₁.heap.get? b = some o → H b = none → (hidT s₁.heap H).get? b = some o := fun e n => hidT_get e n
    have noA : ∀ {b : Addr} {o : Obj} {es : Array DictEntry} {ep : Nat}, s₁.heap.get? b = some o → o.data = .dict es ep → H b = none := fun {b o es ep} e d => by
      cases q : H b with
      | none => rfl
      | some u =>
        have e' : b = a := hA b (by rw [q]; simp)
        subst e'
        rw [ha] at e; cases e
        have d' : Data.seq vs.toArray _ = Data.dict es ep := d
        cases d'
    have nsK : ∀ {b : Addr} {m : Str → Option Value}, s₁.heap.Ns b m → (hidT s₁.heap H).Ns b m := fun {b m} ⟨o, es, ep, e, d, r⟩ => ⟨o, es, ep, base_of e (noA e d), d, r⟩
    have hKb : K.In (hidT s₁.heap H) := fun b o e => base_of (KX b o e) (by
      cases q : H b with
      | none => rfl
      | some u =>
        have e' : b = a := hA b (by rw [q]; simp)
        subst e'
        rw [hK (by rw [q]; simp)] at e; cases e)
    have hM : Mod K mg (hidT s₁.heap H) := ⟨hKb, nsK hns, ⟨mb, nsK hb, hbb⟩, let ⟨mc, h1, h2⟩ := hlim; ⟨mc, nsK h1, h2⟩⟩
    have e0 : Env0 P w K mg (hidT s₁.heap H) callerA [] s₁ H := ⟨rfl, hM, fun b o e => of_hidT e, Nat.le_of_eq (hidT_size _ _), trivial, fun b hb => absurd (show b ∈ ([] : List Addr) from hb) (by simp), hok, .of_eq hg⟩
    refine codeAny_mono ((F _ hKb (nsK hns)).run callerA [] s₁ H ⟨[.ref a], []⟩ [.ref a] [.ref a] _ _ hr e0 (hbind s₁ (.ref a)) (.cons rfl .nil) (hsp H hO hS)) fun r s' h => ?_
    cases r with
    | error e => exact (hCX H e s' h).elim
    | ok fl =>
      cases fl with
      | next => exact False.elim h
      | brk => exact False.elim h
      | cont => exact False.elim h
      | ret u =>
        obtain ⟨v, H', os, bare, un, hok', r', q⟩ := h
        have q' : v = .bl true := q
        subst q'
        obtain rfl : u = Value.bool true := r'
        refine ⟨rfl, OldK.of_keep fun b o e => ?_, os, bare⟩
        cases q : H b with
        | none => exact un.keep b o e q (by intro z; exact absurd (show b ∈ ([] : List Addr) from z) (by simp)) (by simp)
        | some u =>
          rcases hO b with z | ⟨ob, xs, z⟩
          · rw [q] at z; cases z
          · have z2 := un.frzs b ob _ z
            obtain ⟨e1, _⟩ := hok b _ z
            obtain ⟨e2, _⟩ := hok' b _ z2
            rw [e] at e1; cases e1
            exact e2
  cases hk : K.lookup a with
  | some o =>
    have e := KX a o hk
    rw [ha] at e
    cases e
    refine core (fun _ => none) (fun _ => .inl rfl) (.inr ⟨_, vs.toArray, _, hk, rfl, rfl, rfl, by rw [List.size_toArray, lenV]; exact hl, by simpa using rv⟩) (fun b u z => by have z' : (none : Option HO) = some u := z; cases z') (fun b z => absurd rfl z) fun z => absurd rfl z
  | none =>
    refine core (fun b => if b = a then some (.frz { cls := .type "list", data := .seq vs.toArray } (.lst (ns.map V.int))) else none) (fun b => ?_) (.inl (.inr ⟨{ cls := .type "list", data := .seq vs.toArray }, if_pos rfl⟩)) (fun b u z => ?_) (fun b z => ?_) fun _ => hk
    · by_cases hb : b = a
      · exact .inr ⟨_, _, if_pos hb⟩
      · exact .inl (if_neg hb)
    · by_cases hb : b = a
      · have z' := (if_pos hb).symm.trans z
        cases z'
        subst hb
        exact ⟨ha, by rw [List.length_map]; exact hl, vs, _, rv, ha⟩
      · have z' := (if_neg hb).symm.trans z
        cases z'
    · by_cases hb : b = a
      · exact hb
      · exact absurd (if_neg hb) z
end L2
namespace L2
open PySem PySem.Spec PyProof.Rows
abbrev KOf {K : PySem.W.Frag} {h : Heap} (_ : K.In h) : PySem.W.Frag := K
theorem walk_of {l : PySem.W.OpenLaw} {n k : Nat} {q : Program} {loose : List Str} {XP : (Str → Option Value) → Heap → Prop} {YP : World → Heap → Prop} {d : DefRec} {K : Params → PySem.W.Frag} {CX : World → CXT} {sp : World → Sp} {x : Str}
    (hn : l.most = some n) (hn2 : n ≤ sizeLine) (hdf : d.params.defaults = []) (hr : Room k callerA)
    (hY : ∀ (w : World) (h : Heap), YP w h → (K w.params).In h)
    (F : ∀ (w : World) (mg : Str → Option Value) (fa : Addr) (h : Heap), (K w.params).In h → h.Ns mainGlobals mg → mg d.name = some (.ref fa) →
      ∃ fd : FuncData, (∀ (s : Shared) (u : Value), BindsTo s fd ⟨[u], []⟩ [(x, u)]) ∧
        ∀ base : Heap, (K w.params).In base → base.Ns mainGlobals mg → FnOk l.prog w (K w.params) mg base (CX w) k fa fd [x] (sp w))
    (hsp : ∀ (w : World) (H : Hp) (a : Addr) (ns : List Int), ns.length ≤ n → Only H → SqL (K w.params) H a (ns.map V.int) → sp w [.ref a] H (fun v _ => v = .bl true) fun _ _ _ => False)
    (hCX : ∀ (w : World) (H : Hp) (s : Shared) (e : Value) (s' : Shared), CX w [] H s (fun _ _ _ => False) e s' → False) :
    PySem.W.WalkO q loose XP YP l.row.toRowW d [] (fun f vs => PySem.call f vs) := by
  refine Att.attach_call hn hdf fun w s₀ s₁ mg mb fa o pm cd doc a vs ns G Y ho hd hcd hmg hobj hints hlen hg => ?_
  have KX := hY w _ Y
  obtain ⟨fd, hb, hF⟩ := F w mg fa _ KX G.T.g hmg
  exact law_call KX G.T.g G.T.b G.T.builtins G.T.nolimit hg hobj hints (Nat.le_trans hlen hn2) hr hF hb (fun H hO hS => hsp w H a ns hlen hO hS) fun H e s' => hCX w H s₁ e s'
end L2
/- THE LAST THEOREM (shape; LID, My.* are yours):
   My.Adr: a structure of the addresses that your layer names (classes, functions); My.Txt K t: a structure (Prop) of the equations over K;
   My.txt_mk : {K} {implicit addresses ..} (e1 : nsIn K mainGlobals "law" = some (some (.ref f))) (e2 : K.lookup f = some ⟨oc, od, .func (fnOf "law" "law" params body scope dV kV doc pm an cdv ct), sl⟩) (e3 : codeIn K cdv "law" = true) .. : ∃ t, My.Txt K t
set_option maxRecDepth 100000 in
set_option maxHeartbeats 0 in
theorem PySem.Challenge.cw_LID_holds : PySem.Challenge.rw_LID.Holds := by
  w_on; o_law; k_head; (case hw => w_witness2)
  k_fill
  refine L2.walk_of (l := PySem.Challenge.rw_LID) (n := 63) (k := 40) (x := "script") (CX := fun w => ..) (sp := fun _ => My.sp_law) rfl (by decide) rfl ⟨rfl, by decide, by decide⟩ (fun w h Y => PySem.W.kIn_of Y) ?F ?S ?C
  case F =>
    intro w mg fa h KX G hmg
    have T : ∃ t, My.Txt (L2.KOf KX) t := by
      dsimp only [L2.KOf]                          -- K must stand as «<heap const> w.params» for k_is
      refine' My.txt_mk ?e1 ?e2 ?e3 ..
      (case e1 => PySem.W.k_is)                    -- in the order: a name -> its address -> its object -> its parts
      (case e2 => PySem.W.k_is)
      ..
    obtain ⟨t, T⟩ := T
    have e0 := hmg.symm.trans (PySem.W.mg_of KX G T.law)
    cases e0                                       -- fa is the law's own address
    exact ⟨_, fun s u => .of_eq rfl, fun base kb nb => My.law_fn T kb nb⟩     -- if «.of_eq rfl» comes too early: refine' ⟨_, ?b, fun base kb nb => My.law_fn T kb nb⟩; exact fun s u => .of_eq rfl
  case S => exact fun w H a ns hl hO hS => ..
  case C => exact ..
(the tactic k_is has no namespace: write k_is) -/
namespace L2
open PySem PySem.Spec PyProof.Rows
def defArgs (s : Stmt) : Arguments := match s with
  | .FunctionDef _ a _ _ _ _ _ _ _ _ => a
  | _ => { posonlyargs := [], args := [], vararg := none, kwonlyargs := [], kw_defaults := [], kwarg := none, defaults := [] }
def defBody (s : Stmt) : List Stmt := match s with
  | .FunctionDef _ _ b _ _ _ _ _ _ _ => b
  | _ => []
def defScope (s : Stmt) : Scope := match s with
  | .FunctionDef _ _ _ _ _ _ sc _ _ _ => sc
  | _ => { kind := .function, names := [], isGenerator := false, isCoroutine := false }
abbrev CX0 : CXT := fun _ _ _ _ _ _ => False
abbrev E0 : XK := fun _ _ _ => False
theorem pass0 {X : Cx} : Passes CX0 X E0 := fun _ _ _ _ _ _ _ h => h.elim
structure Fun (K : PySem.W.Frag) (x qual : Str) (st : Stmt) (f : Addr) (fd : FuncData) : Prop where
  ex : ∃ (oc : Value) (od : Option Addr) (kV doc pm : Value) (an : Option Addr) (cdv ct : Value) (osl : Array (Option Value)),
    fd = PySem.W.fnOf x qual (defArgs st) (defBody st) (defScope st) .none kV doc pm an cdv ct ∧ K.lookup f = some ⟨oc, od, .func fd, osl⟩ ∧ PySem.W.codeIn K cdv qual = true
  kp : PySem.W.keepIn K (.ref f) = true
section
variable {P : Program} {w : World} {K : PySem.W.Frag} {mg : Str → Option Value} {base : Heap}
theorem Fun.ok {x qual : Str} {st : Stmt} {f : Addr} {fd : FuncData} {N ps : List Str} {k : Nat} {sp : Sp} (F : Fun K x qual st f fd) (S : FnScope N ps (defScope st)) (len : ∀ vs H Q E, sp vs H Q E → vs.length = ps.length)
    (hbody : ∀ (cdv : Value) (A : Around) (outer : List Env) (s : Shared) (H : Hp) (vs : List V) (Q : VK) (E : XK), Room k (A.deeper (envOfC qual (defScope st) s.heap.objs.size f cdv)) → sp vs H Q E →
      ∃ t, PSs (cxOf CX0 P w K mg base N qual (defScope st) f cdv A outer s H E).nox (defBody st) t ∧ t { nx := fun _ H' => Q .non H', rt := Q } (start N vs) H) : FnOk P w K mg base CX0 (k + 1) f fd ps sp := by
  obtain ⟨oc, od, kV, doc, pm, an, cdv, ct, osl, rfl, lk, hcd⟩ := F.ex
  refine fn_of lk hcd S len fun A outer s H vs Q E hr hsp => ?_
  obtain ⟨t, h, q⟩ := hbody cdv A outer s H vs Q E hr hsp
  exact ⟨t, h.nox, q⟩
theorem Fun.binds {x qual : Str} {st : Stmt} {f : Addr} {fd : FuncData} {ps : List Str} (F : Fun K x qual st f fd)
    (h : ∀ (kV doc pm : Value) (an : Option Addr) (cdv ct : Value) (us : List Value), us.length = ps.length → bindArgs (PySem.W.fnOf x qual (defArgs st) (defBody st) (defScope st) .none kV doc pm an cdv ct) ⟨us, []⟩ = pure (ps.zip us)) : Binds K fd ps [] := by
  obtain ⟨oc, od, kV, doc, pm, an, cdv, ct, osl, rfl, lk, hcd⟩ := F.ex
  exact .all (h kV doc pm an cdv ct)
theorem fun_mk {x qual : Str} {st : Stmt} {f : Addr} {oc : Value} {od an : Option Addr} {osl : Array (Option Value)} {kV doc pm cdv ct : Value} (l : K.lookup f = some ⟨oc, od, .func (PySem.W.fnOf x qual (defArgs st) (defBody st) (defScope st) .none kV doc pm an cdv ct), osl⟩)
    (c : PySem.W.codeIn K cdv qual = true) (k : PySem.W.keepIn K (.ref f) = true) : Fun K x qual st f (PySem.W.fnOf x qual (defArgs st) (defBody st) (defScope st) .none kV doc pm an cdv ct) := ⟨⟨oc, od, kV, doc, pm, an, cdv, ct, osl, rfl, l, c⟩, k⟩
end
theorem hu_of {A : Around} {k : Nat} (hr : Room k A) : A.units + 1 < cLine := Nat.lt_of_le_of_lt (Nat.add_le_add_left (by decide : 1 ≤ 64) _) hr.units
section
variable {X : Cx}
theorem pv (i : Nat) {x : Str} {pos : Pos} (hN : X.N[i]? = some x := by rfl) (hv : Vis X.env.scope x := by first | exact Or.inl rfl | exact Or.inr (Or.inl rfl) | exact Or.inr (Or.inr rfl)) (hd : (x == ("__debug__" : Str)) = false := by decide)
    (hcd : (x == ("__classdict__" : Str)) = false := by decide) : PE X (.Name x pos) (tVar i) := pe_var hN hv hd hcd
end
theorem iteF {A B : Prop} (h : B) : if false = true then A else B := by
  rw [if_neg Bool.false_ne_true]
  exact h
theorem iteT {A B : Prop} (h : A) : if true = true then A else B := by
  rw [if_pos rfl]
  exact h
theorem ite2 {c A B : Prop} [Decidable c] (h1 : c → A) (h2 : ¬ c → B) : if c then A else B := by
  by_cases h : c
  · rw [if_pos h]
    exact h1 h
  · rw [if_neg h]
    exact h2 h
def Same (H H' : Hp) : Prop := ∀ b o, H b = some o → H' b = some o
theorem Same.refl (H : Hp) : Same H H := fun _ _ h => h
theorem Same.trans {H H1 H2 : Hp} (a : Same H H1) (b : Same H1 H2) : Same H H2 := fun c o h => b c o (a c o h)
theorem Same.free {H H' : Hp} (e : Same H H') {l : Addr} (h : H' l = Option.none) : H l = Option.none := by
  cases q : H l with
  | none => rfl
  | some o =>
    rw [e l o q] at h
    cases h
theorem Same.seq {K : PySem.W.Frag} {H H' : Hp} {a : Addr} {xs : List V} (e : Same H H') (h : SqL K H a xs) : SqL K H' a xs := by
  rcases h with (h | ⟨o, h⟩) | h
  · exact .inl (.inl (e _ _ h))
  · exact .inl (.inr ⟨o, e _ _ h⟩)
  · exact .inr h
end L2
namespace L2
open PySem PySem.Spec PyProof.Rows
section
variable {κ : Type} [DecidableEq κ]
def valV (kvs : List (κ × V)) (k : κ) : Option V := (kvs.find? fun kv => decide (kv.1 = k)).map (·.2)
def putK (kvs : List (κ × V)) (k : κ) (v : V) : List (κ × V) :=
  if (kvs.any fun kv => decide (kv.1 = k)) = true then kvs.map (fun kv => if kv.1 = k then (kv.1, v) else kv) else kvs ++ [(k, v)]
def dropK (kvs : List (κ × V)) (k : κ) : List (κ × V) := kvs.filter fun kv => decide (kv.1 ≠ k)
theorem valV_pos {p : κ × V} {r : List (κ × V)} {k : κ} (e : p.1 = k) : valV (p :: r) k = some p.2 := by simp [valV, List.find?_cons, e]
theorem valV_neg {p : κ × V} {r : List (κ × V)} {k : κ} (e : ¬ p.1 = k) : valV (p :: r) k = valV r k := by simp [valV, List.find?_cons, e]
theorem valV_any (k : κ) : ∀ kvs : List (κ × V), (kvs.any fun kv => decide (kv.1 = k)) = (valV kvs k).isSome
  | [] => rfl
  | p :: r => by
    rw [List.any_cons]
    by_cases e : p.1 = k
    · simp only [valV_pos e, decide_eq_true e, Bool.true_or, Option.isSome_some]
    · rw [valV_neg e, decide_eq_false e, Bool.false_or]; exact valV_any k r
theorem length_putK (kvs : List (κ × V)) (k : κ) (v : V) : (putK kvs k v).length ≤ kvs.length + 1 := by
  unfold putK
  split
  · rw [List.length_map]; omega
  · rw [List.length_append, List.length_cons, List.length_nil]; omega
theorem RelO.isSome_eq {o : Option V} {u : Option Value} (r : RelO o u) : o.isSome = u.isSome := by
  cases o with
  | none => cases u with
    | none => rfl
    | some _ => exact (show False from r).elim
  | some _ => cases u with
    | none => exact (show False from r).elim
    | some _ => rfl
theorem RelO.getD {o : Option V} {u : Option Value} {d : V} {d' : Value} (r : RelO o u) (rd : RelV d d') : RelV (o.getD d) (u.getD d') := by
  cases o with
  | none => cases u with
    | none => exact rd
    | some _ => exact (show False from r).elim
  | some _ => cases u with
    | none => exact (show False from r).elim
    | some _ => exact r
theorem KV.val {kvs : List (κ × V)} {vs : List (κ × Value)} (r : KV kvs vs) (k : κ) : RelO (valV kvs k) (valueAt vs k) := by
  unfold KV at r
  induction r with
  | nil => exact True.intro
  | @cons p q ps qs h t ih =>
    obtain ⟨h1, h2⟩ := h
    by_cases e : p.1 = k
    · have e' : q.1 = k := h1.symm.trans e
      have b : valueAt (q :: qs) k = some q.2 := by simp [valueAt, List.find?_cons, e']
      rw [valV_pos e, b]; exact h2
    · have e' : ¬ q.1 = k := fun z => e (h1.trans z)
      have b : valueAt (q :: qs) k = valueAt qs k := by simp [valueAt, List.find?_cons, e']
      rw [valV_neg e, b]; exact ih
theorem KV.any {kvs : List (κ × V)} {vs : List (κ × Value)} (r : KV kvs vs) (k : κ) : (kvs.any fun kv => decide (kv.1 = k)) = vs.any fun kv => decide (kv.1 = k) := by
  unfold KV at r
  induction r with
  | nil => rfl
  | cons h t ih => rw [List.any_cons, List.any_cons, ih, h.1]
theorem KV.repl {kvs : List (κ × V)} {vs : List (κ × Value)} (r : KV kvs vs) (k : κ) {y : V} {u : Value} (ry : RelV y u) :
    KV (kvs.map fun kv => if kv.1 = k then (kv.1, y) else kv) (vs.map fun kv => if kv.1 = k then (kv.1, u) else kv) := by
  unfold KV at r ⊢
  induction r with
  | nil => exact .nil
  | @cons p q ps qs h t ih =>
    rw [List.map_cons, List.map_cons]
    refine .cons ?_ ih
    obtain ⟨h1, h2⟩ := h
    by_cases e : p.1 = k
    · rw [if_pos e, if_pos (h1.symm.trans e)]; exact ⟨h1, ry⟩
    · rw [if_neg e, if_neg (fun z => e (h1.trans z))]; exact ⟨h1, h2⟩
theorem KV.put {kvs : List (κ × V)} {vs : List (κ × Value)} (r : KV kvs vs) (k : κ) {y : V} {u : Value} (ry : RelV y u) : KV (putK kvs k y) (stored vs k u) := by
  unfold putK stored
  rw [r.any k]
  by_cases e : (vs.any fun kv => decide (kv.1 = k)) = true
  · rw [if_pos e, if_pos e]; exact r.repl k ry
  · rw [if_neg e, if_neg e]; exact Paired.snoc r ⟨rfl, ry⟩
theorem KV.drop {kvs : List (κ × V)} {vs : List (κ × Value)} (r : KV kvs vs) (k : κ) : KV (dropK kvs k) (without vs k) := by
  unfold KV at r ⊢
  unfold dropK without
  induction r with
  | nil => exact .nil
  | @cons p q ps qs h t ih =>
    obtain ⟨h1, h2⟩ := h
    rw [List.filter_cons, List.filter_cons]
    by_cases e : p.1 = k
    · have a : ¬ decide (p.1 ≠ k) = true := by simp [e]
      have b : ¬ decide (q.1 ≠ k) = true := by simp [h1.symm.trans e]
      rw [if_neg a, if_neg b]; exact ih
    · have e' : ¬ q.1 = k := fun z => e (h1.trans z)
      have a : decide (p.1 ≠ k) = true := by simp [e]
      have b : decide (q.1 ≠ k) = true := by simp [e']
      rw [if_pos a, if_pos b]; exact .cons ⟨h1, h2⟩ ih
theorem KV.keys {kvs : List (κ × V)} {vs : List (κ × Value)} (r : KV kvs vs) : kvs.map (·.1) = vs.map (·.1) := by
  unfold KV at r
  induction r with
  | nil => rfl
  | cons h t ih => rw [List.map_cons, List.map_cons, ih, h.1]
theorem KV.length {kvs : List (κ × V)} {vs : List (κ × Value)} (r : KV kvs vs) : kvs.length = vs.length := Paired.length r
end
theorem kV_is {P : Program} {w : World} {k : Key} {u : Value} (r : RelV (kV k) u) : (mixKind P w).is k u = true := by
  cases k with
  | inl i => obtain ⟨t, e⟩ := (show ∃ t, u = Value.int i t from r); subst e; exact mixKind_int P w i t
  | inr x => obtain ⟨t, e⟩ := (show ∃ t, u = Value.str x t from r); subst e; exact mixKind_str P w x t
theorem items_are {P : Program} {w : World} : ∀ {ks : List Key} {us : List Value}, Vals (ks.map kV) us → ItemsAre (mixKind P w) ks us
  | [], _, r => by rw [List.map_nil] at r; cases r; exact .nil
  | k :: ks, _, r => by
    rw [List.map_cons] at r
    cases r with
    | cons h t => exact .cons (kV_is h) (items_are t)
abbrev KT (H : Hp) : List (List Key × V) → List (List Key × Addr × Value) → Prop := Paired fun p q => p.1 = q.1 ∧ H q.2.1 = some (.tup (p.1.map kV)) ∧ RelV p.2 q.2.2
theorem KT.val {H : Hp} {kvs : List (List Key × V)} {xs : List (List Key × Addr × Value)} (r : KT H kvs xs) (k : List Key) : RelO (valV kvs k) ((atKey xs k).map (·.2)) := by
  induction r with
  | nil => exact True.intro
  | @cons p q ps qs h t ih =>
    obtain ⟨h1, _, h2⟩ := h
    by_cases e : p.1 = k
    · have e' : q.1 = k := h1.symm.trans e
      have b : atKey (q :: qs) k = some q.2 := by simp [atKey, List.find?_cons, e']
      rw [valV_pos e, b]; exact h2
    · have e' : ¬ q.1 = k := fun z => e (h1.trans z)
      have b : atKey (q :: qs) k = atKey qs k := by simp [atKey, List.find?_cons, e']
      rw [valV_neg e, b]; exact ih
theorem KT.repl {H : Hp} {kvs : List (List Key × V)} {xs : List (List Key × Addr × Value)} (r : KT H kvs xs) (k : List Key) {y : V} {u : Value} (ry : RelV y u) :
    KT H (kvs.map fun kv => if kv.1 = k then (kv.1, y) else kv) (xs.map (putAt k u)) := by
  induction r with
  | nil => exact .nil
  | @cons p q ps qs h t ih =>
    rw [List.map_cons, List.map_cons]
    refine .cons ?_ ih
    obtain ⟨h1, h2, h3⟩ := h
    unfold putAt
    by_cases e : p.1 = k
    · rw [if_pos e, if_pos (h1.symm.trans e)]; exact ⟨h1, h2, ry⟩
    · rw [if_neg e, if_neg (fun z => e (h1.trans z))]; exact ⟨h1, h2, h3⟩
theorem KT.put {H : Hp} {kvs : List (List Key × V)} {xs : List (List Key × Addr × Value)} (r : KT H kvs xs) (k : List Key) {b : Addr} {y : V} {u : Value} (hb : H b = some (.tup (k.map kV))) (ry : RelV y u) :
    KT H (putK kvs k y) (storedH xs k b u) := by
  have e : (kvs.any fun kv => decide (kv.1 = k)) = (atKey xs k).isSome := by
    rw [valV_any, (r.val k).isSome_eq, Option.isSome_map]
  unfold putK storedH
  rw [e]
  by_cases q : (atKey xs k).isSome = true
  · rw [if_pos q, if_pos q]; exact r.repl k ry
  · rw [if_neg q, if_neg q]; exact Paired.snoc r ⟨rfl, hb, ry⟩
theorem KT.keeps {H H' : Hp} {kvs : List (List Key × V)} {xs : List (List Key × Addr × Value)} (r : KT H kvs xs) (ht : ∀ b ys, H b = some (.tup ys) → H' b = some (.tup ys)) : KT H' kvs xs :=
  Paired.mapP r fun _ _ z => ⟨z.1, ht _ _ z.2.1, z.2.2⟩
section
variable {P : Program} {w : World} {H : Hp} {h : Heap} {a : Addr}
theorem rd_of {u : HO} (ok : HOk P w H h) (e : Rd H a u) : ObjOk P w H h a u := e.ok ok
theorem dk_rd {kvs : List (Key × V)} (ok : HOk P w H h) (e : Rd H a (.dK kvs)) : kvs.length ≤ sizeLine ∧ (a == sysModules) = false ∧ ∃ vs, KV kvs vs ∧ h.DictOf (mixKind P w) a vs :=
  show ObjOk P w H h a (.dK kvs) from rd_of ok e
theorem key_of {ks : List Key} (ok : HOk P w H h) (e : H a = some (.tup (ks.map kV))) : (tupleKind (mixKind P w)).is h ks a := by
  obtain ⟨_, its, r, o, h1, h2, n, h3⟩ := (show ObjOk P w H h a (.tup (ks.map kV)) from ok a _ e)
  exact ⟨o, its.toArray, n, h1, h2, h3, by simpa using items_are r⟩
theorem dt_rd {kvs : List (List Key × V)} (ok : HOk P w H h) (e : Rd H a (.dT kvs)) : kvs.length ≤ sizeLine ∧ (a == sysModules) = false ∧
    ∃ xs, KT H kvs xs ∧ h.DictOfH (tupleKind (mixKind P w)) a xs := by
  obtain ⟨z, y, xs, r, o, es, ep, h1, h2, h3, h4, h5⟩ := (show ObjOk P w H h a (.dT kvs) from rd_of ok e)
  refine ⟨z, y, xs, r, o, es, ep, h1, h2, h3, h4, fun x hx => ?_, h5⟩
  have all : ∀ {l : List (List Key × V)} {m : List (List Key × Addr × Value)}, KT H l m → ∀ x ∈ m, (tupleKind (mixKind P w)).is h x.1 x.2.1 := by
    intro l m q
    induction q with
    | nil => intro x hx; exact nomatch hx
    | @cons p q ps qs hq t ih =>
      intro x hx
      rcases List.mem_cons.mp hx with e | hx
      · subst e
        exact key_of ok (by rw [← hq.1]; exact hq.2.1)
      · exact ih x hx
  exact all r x hx
theorem dt_of {kvs : List (List Key × V)} (ok : HOk P w H h) (e : H a = some (.dT kvs)) : kvs.length ≤ sizeLine ∧ (a == sysModules) = false ∧
    ∃ xs, KT H kvs xs ∧ h.DictOfH (tupleKind (mixKind P w)) a xs := dt_rd ok (.inl e)
end
def DGet (H : Hp) (a : Addr) (y : V) (r : Option V) : Prop :=
  (∃ kvs k, Rd H a (.dK kvs) ∧ y = kV k ∧ r = valV kvs k) ∨ ∃ kvs k b, Rd H a (.dT kvs) ∧ y = .ref b ∧ H b = some (.tup (k.map kV)) ∧ r = valV kvs k
def DPut (H : Hp) (a : Addr) (y v : V) (H' : Hp) : Prop :=
  (∃ kvs k, H a = some (.dK kvs) ∧ y = kV k ∧ kvs.length < sizeLine ∧ H' = upd H a (.dK (putK kvs k v))) ∨
  ∃ kvs k b, H a = some (.dT kvs) ∧ y = .ref b ∧ H b = some (.tup (k.map kV)) ∧ kvs.length < sizeLine ∧ H' = upd H a (.dT (putK kvs k v))
theorem DGet.k {H : Hp} {a : Addr} {kvs : List (Key × V)} {k : Key} (e : H a = some (.dK kvs)) : DGet H a (kV k) (valV kvs k) := .inl ⟨kvs, k, .inl e, rfl, rfl⟩
theorem DGet.t {H : Hp} {a b : Addr} {kvs : List (List Key × V)} {k : List Key} (e : H a = some (.dT kvs)) (eb : H b = some (.tup (k.map kV))) : DGet H a (.ref b) (valV kvs k) := .inr ⟨kvs, k, b, .inl e, rfl, eb, rfl⟩
theorem DPut.k {H : Hp} {a : Addr} {kvs : List (Key × V)} {k : Key} {v : V} (e : H a = some (.dK kvs)) (hl : kvs.length < sizeLine) : DPut H a (kV k) v (upd H a (.dK (putK kvs k v))) := .inl ⟨kvs, k, e, rfl, hl, rfl⟩
theorem DPut.t {H : Hp} {a b : Addr} {kvs : List (List Key × V)} {k : List Key} {v : V} (e : H a = some (.dT kvs)) (eb : H b = some (.tup (k.map kV))) (hl : kvs.length < sizeLine) :
    DPut H a (.ref b) v (upd H a (.dT (putK kvs k v))) := .inr ⟨kvs, k, b, e, rfl, eb, hl, rfl⟩
section
variable {X : Cx} {pins : List (Addr × Obj)} {σ : St} {H : Hp} {s : Shared} {a : Addr} {y v : V} {u r : Value} {o : Option V} {A : Around} {E : Value → Shared → Prop}
theorem Inv.big (I : Inv X pins σ H s) : sysModules < s.heap.objs.size := by
  have h : mainGlobals < s.heap.objs.size := (I.mod.glob.keeps I.bk).lt
  exact Nat.lt_trans (by decide) h
theorem d_write {h' : Heap} {t' : Nat} {ob : HO} (I : Inv X pins σ H s) (mu : Mut (H a)) (hs : Heap.SameBut a s.heap h') (he : ∃ q, h'.get? a = some q) (new : ObjOk X.prog X.w (upd H a ob) h' a ob) :
    Inv X pins σ (upd H a ob) { s with heap := h', toks := t' } :=
  I.write (x := a) (e := a) mu (.inl rfl) (fun b q hb z => (hs.2 b hb).trans z) he new
end
section
variable {X : Cx} {pins : List (Addr × Obj)} {σ : St} {H : Hp} {s : Shared} {a : Addr} {kvs : List (Key × V)} {k : Key} {u : Value} {A : Around} {E : Value → Shared → Prop}
end
inductive XDp (x : V) (S : Addr → Hp → Prop) (R : Hp → Prop) : Prop
  | mk (a : Addr) (H4 : Hp) (e : x = .ref a) (s : S a H4) (q : R H4) : XDp x S R
inductive XDo (S : Option V → Prop) (R : Option V → Prop) : Prop
  | mk (o : Option V) (s : S o) (q : R o) : XDo S R
inductive XDg (x : V) (S : Addr → V → Prop) (R : V → Prop) : Prop
  | mk (a : Addr) (v : V) (e : x = .ref a) (s : S a v) (q : R v) : XDg x S R
inductive XDi (x : V) (S : Addr → Option V → Prop) (R : Option V → Prop) : Prop
  | mk (a : Addr) (o : Option V) (e : x = .ref a) (s : S a o) (q : R o) : XDi x S R
section
variable {X : Cx} {o i e value : Expr} {pos pos' tpos : Pos} {td ty tv : TE}
end
theorem dt_empty {P : Program} {w : World} {H : Hp} (h : Heap) (hb : sysModules < h.objs.size) : ObjOk P w H (h.push { cls := .type "dict", data := .dict #[] }) h.objs.size (.dT []) :=
  ⟨Nat.zero_le _, beq_eq_false_iff_ne.mpr (Ne.symm (Nat.ne_of_lt hb)), [], .nil, _, #[], 0, Heap.get?_push_size _ rfl, ⟨rfl, rfl, rfl⟩, rfl, rfl, List.nodup_nil⟩
def tDNewT : TE := fun _ H Q => ∀ p, H p = none → Q (.ref p) (upd H p (.dT []))
section
variable {X : Cx} {pos : Pos}
theorem pe_dnewT : PE X (.Dict [] [] pos) tDNewT := fun pins s σ H Q I h =>
  wpAny_Dict_empty ⟨.ref s.heap.objs.size, _, I.laid (a := s.heap.objs.size) (o := .dT []) (t' := s.toks) (fun _ _ q => Heap.get?_push_of_some _ q) (Nat.le_refl _) (dt_empty s.heap I.big), rfl, h _ (I.hok.fresh (Nat.le_refl _))⟩
end
structure M1 (X : Cx) (o : Expr) (m : Str) (apos : Pos) (e : Expr) (cpos : Pos) : Prop where
  base : attributeBase o m X.env (eval o X.env) = eval o X.env
  few : ((backTo cpos (starEach [e] X.env)).all (fun x => !x.1) && (backToKw cpos (keywordEach [] X.env)).all (fun x => x.1.isSome)
    && decide (([e] : List Expr).length + ([] : List Keyword).length + (if ([] : List Keyword).isEmpty then 0 else 1) < 30)) = true
  line : (apos.endLine == cpos.line) = true
  trees : backTo cpos (starEach [e] X.env) = [(false, eval e X.env)]
structure M2 (X : Cx) (o : Expr) (m : Str) (apos : Pos) (e f : Expr) (cpos : Pos) : Prop where
  base : attributeBase o m X.env (eval o X.env) = eval o X.env
  few : ((backTo cpos (starEach [e, f] X.env)).all (fun x => !x.1) && (backToKw cpos (keywordEach [] X.env)).all (fun x => x.1.isSome)
    && decide (([e, f] : List Expr).length + ([] : List Keyword).length + (if ([] : List Keyword).isEmpty then 0 else 1) < 30)) = true
  line : (apos.endLine == cpos.line) = true
  trees : backTo cpos (starEach [e, f] X.env) = [(false, eval e X.env), (false, eval f X.env)]
def IsD (H : Hp) (a : Addr) : Prop := (∃ kvs, Rd H a (.dK kvs)) ∨ ∃ kvs, Rd H a (.dT kvs)
theorem isD_at {X : Cx} {pins : List (Addr × Obj)} {σ : St} {H : Hp} {s : Shared} {a : Addr} (I : Inv X pins σ H s) (d : IsD H a) :
    s.TypeIs (.ref a) "dict" ∧ (∀ b, Value.ref a = .ref b → ∃ ob, s.heap.get? b = some ob ∧ ob.dict = none) ∧ (a == sysModules) = false := by
  rcases d with ⟨kvs, e⟩ | ⟨kvs, e⟩
  · obtain ⟨_, hd, vs, _, dd⟩ := dk_rd I.hok e
    refine ⟨dd.typeIs, fun b q => ?_, hd⟩
    cases q
    obtain ⟨ob, _, _, h1, h2, _⟩ := dd
    exact ⟨ob, h1, h2.2.1⟩
  · obtain ⟨_, hd, xs, _, dd⟩ := dt_rd I.hok e
    refine ⟨dd.typeIs, fun b q => ?_, hd⟩
    cases q
    obtain ⟨ob, _, _, h1, h2, _⟩ := dd
    exact ⟨ob, h1, h2.2.1⟩
section
variable {X : Cx} {pins : List (Addr × Obj)} {σ : St} {H : Hp} {s : Shared} {a : Addr} {y d : V} {u r : Value} {o : Option V} {A : Around} {E : Value → Shared → Prop}
end
section
variable {X : Cx} {o e f : Expr} {apos cpos : Pos} {td ty tx : TE}
end
section
variable {X : Cx} {pins : List (Addr × Obj)} {σ : St} {H : Hp} {s : Shared} {a : Addr} {kvs : List (Key × V)} {A : Around} {E : Value → Shared → Prop}
end
section
variable {X : Cx} {pins : List (Addr × Obj)} {σ : St} {H : Hp} {s : Shared} {a : Addr} {y : V} {u : Value} {A : Around} {E : Value → Shared → Prop}
end
end L2
namespace L2
open PySem
section
variable {prog : Program} {w : World} {A : Around} {E : Value → Shared → Prop} {h : Heap} {g : Array GenState} {d : Drawn} {t : Nat} {os : OsState} {a : Addr} {o : Obj}
end
end L2
namespace L2
open PySem
section
variable {prog : Program} {w : World} {K : Type} [DecidableEq K] {knd : KeyKind prog w K} {A : Around} {E : Value → Shared → Prop}
def PairAt (knd : KeyKind prog w K) (h : Heap) (u : Value) (kv : K × Value) : Prop :=
  ∃ t key n o, u = .ref t ∧ knd.is kv.1 key = true ∧ h.get? t = some o ∧ o.cls = .type "tuple" ∧ o.data = .seq #[key, kv.2] n
theorem PairAt.keep {h h' : Heap} {u : Value} {kv : K × Value} (p : PairAt knd h u kv) (k : ∀ b o, o.cls = .type "tuple" → h.get? b = some o → h'.get? b = some o) : PairAt knd h' u kv :=
  let ⟨t, key, n, o, a, b, c, d, e⟩ := p; ⟨t, key, n, o, a, b, k t o d c, d, e⟩
end
end L2
namespace L2
open PySem PySem.Spec PyProof.Rows
def PIfs (X : Cx) (ifs : List Expr) (t : TT) : Prop :=
  ∀ (pins : List (Addr × Obj)) (s : Shared) (σ : St) (H : Hp) (Q : Bool → Hp → Prop), Inv X pins σ H s → t σ H Q →
    wpAny (model X.prog X.w) X.A (forIn ifs true fun c r => if r = true then do let ok ← isTrue c X.env (eval c X.env); pure (ForInStep.yield ok) else pure (ForInStep.yield r)) (TP X pins σ Q) X.xe s
theorem pif_one {X : Cx} {c : Expr} {t : TT} (h : PT X c t) : PIfs X [c] t := fun pins s σ H Q I hw => wpAny_tests_one (h pins s σ H Q I hw)
theorem compLoop_go {prog : Program} {w : World} {A : Around} {R : Result → Shared → Prop} {s : Shared} {elt target iter : Expr} {ifs : List Expr} {scope : Scope} {pos : Pos} {it acc : Value} {env : Env} (I : Nat → Shared → Prop)
    (turn : ∀ n s, I n s → wpAny (model prog w) A (pyNext it) (fun r s₁ => match r with
      | none => R (.ok .next) s₁
      | some v => wpAny (model prog w) A (letOwnedTupleGo target it v) (fun _ s₁ => wpAny (model prog w) A (assign target env v) (fun _ s₂ =>
          wpAny (model prog w) A (forIn ifs true fun c r => if r = true then do let ok ← isTrue c env (eval c env); pure (ForInStep.yield ok) else pure (ForInStep.yield r)) (fun ok s₃ =>
            if ok = true then wpAny (model prog w) A (eval elt env) (fun x s₄ =>
              wpAny (model prog w) A (call (.builtin "list.append") [acc, x]) (fun _ s₅ => ∃ m, m < n ∧ I m s₅) (fun _ _ => False) s₄) (fun _ _ => False) s₃
            else ∃ m, m < n ∧ I m s₃) (fun _ _ => False) s₂) (fun _ _ => False) s₁) (fun _ _ => False) s₁) (fun _ _ => False) s)
    (n : Nat) (h : I n s) :
    codeAny (model prog w) A (.compLoop (.ListComp elt [⟨target, iter, ifs, 0⟩] scope pos) 0 it acc env) R s := by
  refine codeAny_loop rfl I (fun n s hI => ?_) n h
  show wpAny _ A ((compTurn (.ListComp elt [⟨target, iter, ifs, 0⟩] scope pos) 0 it acc env).onRaise (fun x => do noteFrame x env; theTreesLotGoes x)) _ _ s
  refine wpAny_noted ?_
  rw [compTurn_list]
  refine wpAny_bind (wpAny_standAt (wpAny_bind (wpAny_mono (turn n s hI) (fun r s₁ h₁ => ?_) fun _ _ h' => h'.elim)))
  cases r with
  | none => exact wpAny_pure h₁
  | some v =>
    refine wpAny_bind (wpAny_mono h₁ (fun _ s₂ h₂ => ?_) fun _ _ h' => h'.elim)
    refine wpAny_bind (wpAny_mono h₂ (fun _ s₂ h₂ => wpAny_bind (wpAny_mono h₂ (fun ok s₃ h₃ => ?_) fun _ _ h' => h'.elim)) fun _ _ h' => h'.elim)
    cases ok with
    | false => exact wpAny_pure ⟨rfl, h₃⟩
    | true =>
      exact wpAny_bind (wpAny_bind (wpAny_mono h₃ (fun x s₄ h₄ => wpAny_bind (wpAny_mono h₄ (fun _ s₅ h₅ => wpAny_pure (wpAny_pure ⟨rfl, h₅⟩)) fun _ _ h' => h'.elim)) fun _ _ h' => h'.elim))
end L2
namespace L2
open PySem PySem.Spec PyProof.Rows
inductive ClsOf (K : PySem.W.Frag) (H : Hp) : V → String → Prop where
  | bl (x : Bool) : ClsOf K H (.bl x) "bool"
  | int (i : Int) : ClsOf K H (.int i) "int"
  | str (x : Str) : ClsOf K H (.str x) "str"
  | tup {a : Addr} {xs : List V} (e : SqT K H a xs) : ClsOf K H (.ref a) "tuple"
inductive XIs (K : PySem.W.Frag) (H : Hp) (xs : List V) (R : Bool → Prop) : Prop
  | mk (x : V) (T n : String) (b : Bool) (e : xs = [x, .ty n]) (c : ClsOf K H x T) (k : PySem.W.kitOne K (.type T) (.type n) = some b) (q : R b) : XIs K H xs R
theorem call_isinst {X : Cx} : CallR X (.builtin "isinstance") (fun xs H Q => XIs X.K H xs fun b => Q (.bl b) H) := by
  intro pins s σ H xs us Q I r h
  obtain ⟨x, T, n, b, rfl, ty, e, q⟩ := h
  obtain ⟨u, w', rfl, rx, rn⟩ := vals2 r
  cases (show w' = Value.type n from rn)
  have fin : ∀ tk, EP X pins σ Q (.bool b) { s with toks := tk } := fun tk => ⟨.bl b, H, I.tok _, rfl, q⟩
  cases ty with
  | bl y => cases (show u = Value.bool y from rx); exact PySem.W.kia_one PySem.W.kitx_bool I.kIn True.intro e (fun z => nomatch z) fin
  | int i => obtain ⟨t, z⟩ := (show ∃ t, u = Value.int i t from rx); cases z; exact PySem.W.kia_one PySem.W.kitx_int I.kIn True.intro e (fun z => nomatch z) fin
  | str y => obtain ⟨t, z⟩ := (show ∃ t, u = Value.str y t from rx); cases z; exact PySem.W.kia_one PySem.W.kitx_str I.kIn True.intro e (fun z => nomatch z) fin
  | @tup a ys hq =>
    cases (show u = Value.ref a from rx)
    obtain ⟨its, _, ⟨o, h1, h2, _⟩, _⟩ := I.tuple hq
    exact PySem.W.kia_one PySem.W.kitx_tuple I.kIn ⟨o, h1, h2⟩ e (fun z => nomatch z) fin
theorem op_eq_nil {X : Cx} (hu : X.A.units < cLine) : OpR X (compareOp .Eq) (fun x y H Q => ∃ a b xs, x = .ref a ∧ y = .ref b ∧ SqL X.K H a xs ∧ SqL X.K H b [] ∧ Q (.bl (xs.isEmpty)) H) := by
  intro pins s σ H x y v u Q I rx ry h
  obtain ⟨a, b, xs, rfl, rfl, ha, hb, q⟩ := h
  cases rx
  cases ry
  obtain ⟨its, r, pl, hz⟩ := I.list ha
  obtain ⟨its2, r2, pl2, hz2⟩ := I.list hb
  have e2 : its2 = [] := Vals.zero r2
  subst e2
  have hlen := r.length
  cases xs with
  | nil =>
    have e : its = [] := Vals.zero r
    subst e
    refine SeqAt.eq_listAt (e := fun _ => true) pl.isList pl2.isList rfl hu (fun j h1 _ => absurd h1 (by simp)) ⟨.bl true, H, I, rfl, q⟩
  | cons y ys =>
    refine SeqAt.eq_list_lengthsAt pl.isList pl2.isList ?_ hu ⟨.bl false, H, I, rfl, q⟩
    rw [List.size_toArray, List.size_toArray, ← hlen]
    simp
end L2
namespace L2
open PySem
structure Clos (env : Env) (scope : Scope) (cl : List (Str × Addr)) : Prop where
  eq : closureFor scope env = pure cl
  sub : ∀ y c, cl.lookup y = some c → env.cells.lookup y = some c
  all : ∀ y, (y, NameKind.free) ∈ scope.names → ∃ c, cl.lookup y = some c
theorem lookup_put {y n : Str} {c : Addr} {l : List (Str × Addr)} : ((n, c) :: l).lookup y = if y = n then some c else l.lookup y := by
  by_cases h : y = n
  · rw [if_pos h]; simp [List.lookup, h]
  · rw [if_neg h]; simp [List.lookup, beq_eq_false_iff_ne.mpr h]
theorem clos_of {env : Env} {scope : Scope} (h : ∀ y, (y, NameKind.free) ∈ scope.names → ∃ c, env.cells.lookup y = some c) : ∃ cl, Clos env scope cl := by
  have go : ∀ (names : List (Str × NameKind)) (acc : List (Str × Addr)), (∀ y, (y, NameKind.free) ∈ names → ∃ c, env.cells.lookup y = some c) → (∀ y c, acc.lookup y = some c → env.cells.lookup y = some c) →
      ∃ cl, (forIn names acc fun (x : Str × NameKind) (cs : List (Str × Addr)) => (if x.2 == .free then do let c ← cellOf env x.1; pure (ForInStep.yield ((x.1, c) :: cs)) else pure (ForInStep.yield cs) : Sem (ForInStep (List (Str × Addr))))) = pure cl ∧
        (∀ y c, cl.lookup y = some c → env.cells.lookup y = some c) ∧ (∀ y, (y, NameKind.free) ∈ names → ∃ c, cl.lookup y = some c) ∧ ∀ y c, acc.lookup y = some c → ∃ c', cl.lookup y = some c' := by
    intro names
    induction names with
    | nil => intro acc _ hs; exact ⟨acc, rfl, hs, fun y hy => absurd hy (by simp), fun y c e => ⟨c, e⟩⟩
    | cons x r ih =>
      intro acc hf hs
      obtain ⟨n, k⟩ := x
      rw [List.forIn_cons]
      by_cases hk : k = .free
      · subst hk
        obtain ⟨c0, e0⟩ := hf n List.mem_cons_self
        obtain ⟨cl, e1, e2, e3, e4⟩ := ih ((n, c0) :: acc) (fun y hy => hf y (List.mem_cons_of_mem _ hy)) (fun y c e => by
          rw [lookup_put] at e
          by_cases z : y = n
          · rw [if_pos z] at e; cases e; rw [z]; exact e0
          · rw [if_neg z] at e; exact hs y c e)
        refine ⟨cl, ?_, e2, fun y hy => ?_, fun y c e => ?_⟩
        · rw [← e1]
          have : cellOf env n = pure c0 := by unfold cellOf; rw [e0]
          simp only [this]
          rfl
        · rcases List.mem_cons.mp hy with z | z
          · cases z; exact e4 n c0 (by rw [lookup_put, if_pos rfl])
          · exact e3 y z
        · by_cases z : y = n
          · exact e4 y c0 (by rw [lookup_put, if_pos z])
          · exact e4 y c (by rw [lookup_put, if_neg z]; exact e)
      · obtain ⟨cl, e1, e2, e3, e4⟩ := ih acc (fun y hy => hf y (List.mem_cons_of_mem _ hy)) hs
        refine ⟨cl, ?_, e2, fun y hy => ?_, e4⟩
        · rw [← e1]
          have : (k == NameKind.free) = false := by simpa using hk
          simp only [this]
          rfl
        · rcases List.mem_cons.mp hy with z | z
          · cases z; exact absurd rfl hk
          · exact e3 y z
  obtain ⟨cl, e1, e2, e3, _⟩ := go scope.names [] h (fun y c e => by simp at e)
  refine ⟨cl, ?_, e2, e3⟩
  unfold closureFor
  exact Eq.trans (congrArg (fun t : Sem (List (Str × Addr)) => t >>= fun cs => pure cs) e1) rfl
theorem relabel_free {scope : Scope} {env : Env} {y : Str} (hk : env.scope.kind = .function) (hy : scope.names.lookup y = some .free) (he : env.kindOf y = some .cell) : (relabel scope env).names.lookup y = some .cell := by
  have go : ∀ l : List (Str × NameKind), l.lookup y = some .free → (l.map fun (x : Str × NameKind) => if (x.2 == NameKind.free && env.scope.kind == .function && env.kindOf x.1 == some .cell) then (x.1, NameKind.cell) else (x.1, x.2)).lookup y = some .cell := by
    intro l
    induction l with
    | nil => intro z; cases z
    | cons x r ih =>
      obtain ⟨n, k⟩ := x
      intro hy
      rw [List.map_cons]
      by_cases z : y = n
      · subst z
        simp [List.lookup] at hy
        subst hy
        simp [List.lookup, hk, he]
      · have zb : (y == n) = false := beq_eq_false_iff_ne.mpr z
        simp only [List.lookup, zb] at hy
        have := ih hy
        dsimp only
        split <;> simp only [List.lookup, zb] <;> exact this
  exact go _ hy
theorem mem_lk {α : Type} {y : Str} {v : α} : ∀ {l : List (Str × α)}, l.lookup y = some v → (y, v) ∈ l
  | [], h => by cases h
  | (n, u) :: r, h => by
    by_cases z : y = n
    · subst z
      simp [List.lookup] at h
      subst h
      exact List.mem_cons_self
    · have zb : (y == n) = false := beq_eq_false_iff_ne.mpr z
      simp only [List.lookup, zb] at h
      exact List.mem_cons_of_mem _ (mem_lk h)
theorem relabel_kind {scope : Scope} {env : Env} {y : Str} {k : NameKind} (h : (relabel scope env).names.lookup y = some k) (hk : k = .cell ∨ k = .free) (hc : ∀ z ∈ scope.names, z.2 ≠ .cell) : (y, NameKind.free) ∈ scope.names := by
  have m := mem_lk h
  unfold relabel at m
  obtain ⟨⟨n, k'⟩, m1, m2⟩ := List.mem_map.mp m
  dsimp only at m2
  split at m2
  · rename_i q
    cases m2
    simp at q
    obtain ⟨⟨q, _⟩, _⟩ := q
    subst q
    exact m1
  · cases m2
    rcases hk with hk | hk
    · exact absurd hk (hc _ m1)
    · rw [← hk]; exact m1
end L2
namespace L2
open PySem PySem.Spec PyProof.Rows
def cxD (X : Cx) (scope : Scope) (cl : List (Str × Addr)) (C : Addr) (s1 : Shared) (H1 : Hp) (N : List Str) (fp : List Addr) : Cx :=
  { X with N := N, s₀ := s1, H₀ := H1, env := compEnvC scope cl C X.env, outer := X.stack, stack := X.stack, ex := fp, fn := fun _ => false, pn := [], xe := fun _ _ => False }
structure Caps (X : Cx) (scope : Scope) (js : List (Nat × Str)) : Prop where
  at_ : ∀ p ∈ js, X.N[p.1]? = some p.2 ∧ X.env.scope.names.lookup p.2 = some .cell ∧ scope.names.lookup p.2 = some .free
  all : ∀ y, (y, NameKind.free) ∈ scope.names → X.env.scope.names.lookup y = some .cell
def capS (ts : List Str) (js : List (Nat × Str)) (σ : St) : St := ts.map (fun _ => none) ++ js.map fun p => (σ[p.1]?).join
theorem inv_compG {X : Cx} {pins : List (Addr × Obj)} {σ : St} {H : Hp} {s1 s4 : Shared} {scope : Scope} {ts : List Str} {js : List (Nat × Str)} {cl : List (Str × Addr)} {fp : List Addr} {C : Addr} {m : Str → Option Value}
    (I : Inv X pins σ H s1) (hf : ∀ b ∈ fp, FpOk X pins H b) (hfl : ∀ b ∈ fp, b < s1.heap.objs.size) (hkind : scope.kind = .function) (hcell : ∀ y ∈ scope.names, y.2 ≠ .cell) (cp : Caps X scope js) (hcl : Clos X.env scope cl)
    (hC : s1.heap.objs.size < C) (ho : s4.os = s1.os) (hg : s4.gens = s1.gens) (old : ∀ b o, s1.heap.get? b = some o → s4.heap.get? b = some o) (hn : s4.heap.Ns C m)
    (hD : s4.heap.get? s1.heap.objs.size = some { cls := .type "list", data := .seq ([] : List Value).toArray 0 }) :
    Inv (cxD X scope cl C s1 H (ts ++ js.map (·.2)) fp) [] (capS ts js σ) (upd H s1.heap.objs.size (.lst [])) s4 := by
  have xk : X.env.scope.kind = .function := I.ok.kind
  have has : ∀ y, ((relabel scope X.env).names.lookup y = some .cell ∨ (relabel scope X.env).names.lookup y = some .free) → ∃ c, cl.lookup y = some c := fun y hy => hcl.all y (by
    rcases hy with hy | hy
    · exact relabel_kind hy (.inl rfl) hcell
    · exact relabel_kind hy (.inr rfl) hcell)
  have lt : ∀ y c, cl.lookup y = some c → c < s1.heap.objs.size := fun y c e => by
    obtain ⟨v, o, ho, _⟩ := I.cell y c (hcl.sub y c e)
    exact Heap.lt_size ho
  refine ⟨⟨I.ok.mod, hkind, I.ok.glob, I.ok.blt, Nat.le_of_lt hC, fun y z c h1 h2 => I.ok.inj y z c (hcl.sub _ _ h1) (hcl.sub _ _ h2), has, fun y c h _ => absurd (show false = true from h) Bool.false_ne_true, I.ok.hd, I.ok.frames, .inl rfl,
      fun b hb => ⟨Nat.ne_of_lt (Nat.lt_trans (hfl b hb) hC), fun y c h => (hf b hb).2.2.2.2.1 y c (hcl.sub _ _ h)⟩, I.bs, Nat.le_trans I.ok.bsz I.sz, fun b o e hb => ?_, fun b hb => ?_, I.stack, I.stkFree⟩,
    ho, ?_, Un.laid old (Nat.le_refl _) I.fresh, ⟨m, hn, fun i y v e1 e2 _ => ?_⟩, fun y c h => ?_, ?_, fun y c h => ?_, fun p hp => absurd (show p ∈ ([] : List (Addr × Obj)) from hp) (by simp), I.hok.laid old (Nat.le_refl _) ?_, ?_⟩
  · obtain ⟨_, _, _, h4, _⟩ := hf b hb
    rcases h4 with h4 | h4
    · exact I.ok.noex b o e h4
    · exact absurd (Nat.lt_of_lt_of_le (Heap.lt_size (I.ok.bs b o e).1) h4) (Nat.lt_irrefl _)
  · intro hb'
    obtain ⟨_, h2, h3, _⟩ := hf b hb
    rcases List.mem_cons.mp (I.stkSub b hb') with z | z
    · exact h2 z
    · exact h3 z
  · rw [hg]; exact I.bare
  · have e1' : (ts ++ js.map (·.2))[i]? = some y := e1
    have e2' : (ts.map (fun _ => (none : Option V)) ++ js.map fun p => (σ[p.1]?).join)[i]? = some (some v) := e2
    by_cases hi : i < ts.length
    · rw [List.getElem?_append_left (by simpa using hi)] at e2'
      simp [hi] at e2'
    · rw [List.getElem?_append_right (by omega)] at e1'
      rw [List.getElem?_append_right (by simpa using Nat.le_of_not_lt hi)] at e2'
      rw [List.length_map] at e2'
      rw [List.getElem?_map] at e1' e2'
      cases hj : js[i - ts.length]? with
      | none => rw [hj] at e1'; cases e1'
      | some p =>
        rw [hj] at e1' e2'
        simp only [Option.map_some, Option.some.injEq] at e1' e2'
        obtain ⟨a1, a2, a3⟩ := cp.at_ p (List.mem_of_getElem? hj)
        subst e1'
        have es : σ[p.1]? = some (some v) := by
          cases q : σ[p.1]? with
          | none => rw [q] at e2'; cases e2'
          | some z => rw [q] at e2'; exact congrArg some e2'
        obtain ⟨m0, hn0, lk⟩ := I.loc
        obtain ⟨u, ru, l⟩ := lk p.1 p.2 v a1 es (.inr (.inl a2))
        rcases l with l | ⟨_, c, ec, o, hc, hd⟩
        · have l1 : X.env.scope.names.lookup p.2 = some .local := l.1
          rw [a2] at l1; cases l1
        · obtain ⟨c', ec'⟩ := hcl.all p.2 (mem_lk a3)
          have e3 := hcl.sub _ _ ec'
          rw [ec] at e3
          cases e3
          exact ⟨u, ru, .inr ⟨.inl (relabel_free xk a3 a2), c, ec', o, old _ _ hc, hd⟩⟩
  · obtain ⟨v, o, h1, h2⟩ := I.cell y c (hcl.sub y c h)
    exact ⟨v, o, old _ _ h1, h2⟩
  · show upd H s1.heap.objs.size (.lst []) C = none
    rw [upd_ne (Nat.ne_of_gt hC)]
    exact I.hok.fresh (Nat.le_of_lt hC)
  · show upd H s1.heap.objs.size (.lst []) c = none
    rw [upd_ne (Nat.ne_of_lt (lt y c h))]
    exact I.freeC y c (hcl.sub y c h)
  · exact ⟨by show 0 ≤ sizeLine; decide, [], 0, .nil, hD⟩
  · show (capS ts js σ).length = (ts ++ js.map (·.2)).length
    simp [capS]
def tCompG (wi : TI) (ts : List Str) (js : List (Nat × Str)) (g : TG) (tif : TT) (te : TE) : TE := fun σ H Q => wi σ H fun J H1 => ∀ D, H1 D = none → ∃ W : Nat → Nat → List V → St → Hp → Prop, (∃ m, W 0 m [] (capS ts js σ) (upd H1 D (.lst []))) ∧
  ∀ i m ys σ' H, W i m ys σ' H → (J.stop i H ∧ Q (.ref D) H) ∨ (J.go i H ∧ ∃ m', m' < m ∧ ∀ x H', J.yld i H x H' → g x σ' H' fun σ2 H2 => tif σ2 H2 fun b H3 =>
    if b = true then te σ2 H3 fun y H4 => H4 D = some (.lst ys) ∧ ys.length < sizeLine ∧ W (i + 1) m' (ys ++ [y]) σ2 (upd H4 D (.lst (ys ++ [y]))) else W (i + 1) m' ys σ2 H3)
theorem pe_compG {X : Cx} {elt iter tg : Expr} {ifs : List Expr} {scope : Scope} {pos : Pos} {wi : TI} {g : TG} {tif : TT} {te : TE} (ts : List Str) (js : List (Nat × Str)) (hc : X.calm = true) (hi : PI X tg iter wi)
    (cp : Caps X scope js) (hcell : ∀ y ∈ scope.names, y.2 ≠ .cell) (hkind : scope.kind = .function)
    (hnames : ∀ y ∈ scope.names, y.2 = .local → scope.names.lookup y.1 = some .local)
    (hg : ∀ cl C s1 H1 fp, PG (cxD X scope cl C s1 H1 (ts ++ js.map (·.2)) fp) tg g)
    (hif : ∀ cl C s1 H1 fp, PIfs (cxD X scope cl C s1 H1 (ts ++ js.map (·.2)) fp) ifs tif) (he : ∀ cl C s1 H1 fp, PE (cxD X scope cl C s1 H1 (ts ++ js.map (·.2)) fp) elt te)
    (hs : ∀ x, foldedSetIterable iter X.env x = pure x := by intro _; rfl) :
    PE X (.ListComp elt [⟨tg, iter, ifs, 0⟩] scope pos) (tCompG wi ts js g tif te) := by
  intro pins s σ H Q I h
  rw [eval_ListComp]
  obtain ⟨cl, hcl⟩ := clos_of (env := X.env) (scope := scope) fun y hy => I.ok.has y (.inl (cp.all y hy))
  refine wpAny_comprehension_free (use := none) rfl hs hcl.eq hkind hnames (thn (hi pins s σ H _ I h) fun v s1 h1 => thn h1 fun itv s2 h2 => ?_)
  obtain ⟨it, fp, tn, J, H2, e, I2, T, st2, f2, h2⟩ := h2
  subst e
  obtain ⟨W, ⟨m0, w0⟩, turn⟩ := h2 s2.heap.objs.size I2.fresh
  have hfl : ∀ b ∈ fp, b < s2.heap.objs.size := fun b hb => by obtain ⟨o, e, _⟩ := T.obj _ _ st2 b hb; exact Heap.lt_size e
  refine wpAny_newObj_type (wpAny_newFunctionEnv hcell (by intro y hy; simp at hy) (fun h₁ hns₁ hsb₁ => ?_) hkind)
  dsimp only at hns₁ hsb₁ ⊢
  generalize hH2 : s2.heap.push { cls := .type "list", dict := none, data := .seq ([] : List Value).toArray } = G2 at hns₁ hsb₁ ⊢
  have hCs : G2.objs.size = s2.heap.objs.size + 1 := by rw [← hH2, Heap.size_push]
  have hDC : s2.heap.objs.size ≠ G2.objs.size := by rw [hCs]; exact Nat.ne_of_lt (Nat.lt_succ_self _)
  have old : ∀ b o, s2.heap.get? b = some o → h₁.get? b = some o := fun b o e =>
    hsb₁.extBut b o (by rw [hCs]; exact Nat.ne_of_lt (Nat.lt_succ_of_lt (Heap.lt_size e))) (Heap.get?_push_of_some _ (hH2 ▸ Heap.get?_push_of_some _ e))
  have hacc : h₁.get? s2.heap.objs.size = some { cls := .type "list", data := .seq ([] : List Value).toArray 0 } := hsb₁.extBut _ _ hDC (Heap.get?_push_of_some _ (hH2 ▸ Heap.get?_push_size _ rfl))
  generalize hX2 : cxD X scope cl G2.objs.size s2 H2 (ts ++ js.map (·.2)) fp = X2
  have I4 : Inv X2 [] (capS ts js σ) (upd H2 s2.heap.objs.size (.lst [])) { s2 with heap := h₁, toks := s2.toks + ([] : List (Str × Value)).length } := by
    rw [← hX2]
    exact inv_compG I2 f2 hfl hkind hcell cp hcl (by rw [hCs]; exact Nat.lt_succ_self _) rfl rfl old hns₁ hacc
  have x1 : X2.prog = X.prog := by rw [← hX2]; rfl
  have x2 : X2.w = X.w := by rw [← hX2]; rfl
  have x3 : X2.K = X.K := by rw [← hX2]; rfl
  have x4 : X2.calm = true := by rw [← hX2]; exact hc
  have x5 : X2.A = X.A := by rw [← hX2]; rfl
  have x6 : X2.env = compEnvC scope cl G2.objs.size X.env := by rw [← hX2]; rfl
  have x7 : X2.xe = fun _ _ => False := by rw [← hX2]; rfl
  have hg' : PG X2 tg g := by rw [← hX2]; exact hg _ _ _ _ _
  have hif' : PIfs X2 ifs tif := by rw [← hX2]; exact hif _ _ _ _ _
  have he' : PE X2 elt te := by rw [← hX2]; exact he _ _ _ _ _
  have st4 : tn 0 h₁ := T.keep _ _ _ st2 fun b _ o e => old b o e
  have stat : ∀ {H' : Hp} {pins' : List (Addr × Obj)}, (∀ b ∈ fp, H' b = none) → (∀ p ∈ pins', p.1 ∉ fp) → ∀ b ∈ fp, FpOk X2 pins' H' b := fun {H' pins'} hn hp b hb => by
    have o4 := I4.ok
    subst hX2
    exact ⟨hn b hb, (o4.exf b hb).1, o4.exfs b hb, .inl hb, (o4.exf b hb).2, fun p hp' => by
      have hp2 : p ∈ ([] : List (Addr × Obj)) ++ pins' := hp'
      rw [List.nil_append] at hp2
      intro z; exact hp p hp2 (by rw [z]; exact hb)⟩
  have fin : ∀ {s' : Shared} {σ' : St} {H' : Hp}, Inv X2 [] σ' H' s' → Q (.ref s2.heap.objs.size) H' →
      compPost (model X.prog X.w) X.A X.xe none (EP X pins σ Q) (.ref s2.heap.objs.size) G2.objs.size (.ok .next) s' := fun {s' σ' H'} J' q => by
    subst hX2
    obtain ⟨m', hn', _⟩ := J'.loc
    refine ⟨m', hn', fun h' hs' => ?_⟩
    have u : Un (frs X.stack) fp H2 H' s2.heap s'.heap := J'.base
    have nC : ∀ b o, s2.heap.get? b = some o → b ≠ G2.objs.size := fun b o e => by rw [hCs]; exact Nat.ne_of_lt (Nat.lt_succ_of_lt (Heap.lt_size e))
    have u' : Un (frs X.stack) fp H2 H' s2.heap h' := ⟨fun b o e n hb hx => (hs'.2 b (nC b o e)).trans (u.keep b o e n hb hx), fun b o e n hb hx => by
        obtain ⟨sl, z⟩ := u.slot b o e n hb hx
        exact ⟨sl, (hs'.2 b (nC b o e)).trans z⟩, u.free, fun b o e hx => by
        obtain ⟨o', z⟩ := u.there b o e hx
        exact ⟨o', (hs'.2 b (nC b o e)).trans z⟩, u.tups, u.frzs, u.tbls⟩
    have hok : HOk X.prog X.w H' h' := fun b ob e => by
      refine (J'.hok b ob e).stay (fun c w' hc' q' => (hs'.2 c ?_).trans q') (fun _ q => q) fun _ _ q => q
      intro z
      have fr : H' G2.objs.size = none := J'.free
      rcases hc' with z' | z'
      · rw [← z'] at e; rw [z, fr] at e; cases e
      · rw [z, fr] at z'; cases z'
    have I5 : Inv X pins σ H' { s' with heap := h' } := I2.call' (s' := { s' with heap := h' }) J'.os u' hok J'.bare fun b hb => by
      obtain ⟨_, f1, _, f3, f4, f5⟩ := f2 b hb
      exact ⟨f3, f1, f4, f5⟩
    exact ⟨.ref s2.heap.objs.size, H', I5, rfl, q⟩
  have loop : ∀ s₃ : Shared, s₃ = { s2 with heap := h₁, toks := s2.toks + ([] : List (Str × Value)).length } →
      codeAny (model X.prog X.w) X.A (.compLoop (.ListComp elt [⟨tg, iter, ifs, 0⟩] scope pos) 0 (.ref it) (.ref s2.heap.objs.size) (compEnvC scope cl G2.objs.size X.env))
        (compPost (model X.prog X.w) X.A X.xe none (EP X pins σ Q) (.ref s2.heap.objs.size) G2.objs.size) s₃ := by
    rintro s₃ rfl
    subst hX2
    refine compLoop_go (fun n s' => ∃ i ys σ' H', Inv (cxD X scope cl G2.objs.size s2 H2 (ts ++ js.map (·.2)) fp) [] σ' H' s' ∧ tn i s'.heap ∧ (∀ b ∈ fp, H' b = none) ∧ W i n ys σ' H') ?_ m0
      ⟨0, [], _, _, I4, st4, fun b hb => by rw [upd_ne (Nat.ne_of_lt (hfl b hb))]; exact (f2 b hb).1, w0⟩
    rintro n s' ⟨i, ys, σ0, H', J', st', fr', w'⟩
    rcases turn i n ys σ0 H' w' with ⟨stop, q⟩ | ⟨go, m', hm, step⟩
    · refine wpAny_mono (T.done (cxD X scope cl G2.objs.size s2 H2 (ts ++ js.map (·.2)) fp) rfl rfl rfl hc i [] s' _ H' (fun _ _ => False) J' (stat fr' (by simp)) st' stop) (fun r s4 ⟨hr, J4⟩ => ?_) fun _ _ z => z
      subst hr
      exact fin J4 q
    · refine wpAny_mono (T.item (cxD X scope cl G2.objs.size s2 H2 (ts ++ js.map (·.2)) fp) rfl rfl rfl hc i [] s' _ H' (fun _ _ => False) J' (stat fr' (by simp)) st' go) (fun r s4 ⟨u, hr, h4⟩ => ?_) fun _ _ z => z
      subst hr
      refine wpAny_mono h4 (fun _ s5 ⟨xv, H5, J5, r5, y5, st5, fr5⟩ => ?_) fun _ _ z => z
      have J5' := J5.pinned (stat fr5 (by simp)) (T.obj _ _ st5)
      have back : ∀ {s7 : Shared} {σ7 : St} {H7 : Hp}, Inv (cxD X scope cl G2.objs.size s2 H2 (ts ++ js.map (·.2)) fp) ([] ++ pinsAt fp s5.heap) σ7 H7 s7 → Inv (cxD X scope cl G2.objs.size s2 H2 (ts ++ js.map (·.2)) fp) [] σ7 H7 s7 ∧ tn (i + 1) s7.heap ∧ ∀ b ∈ fp, H7 b = none := fun {s7 σ7 H7} J7 => by
        refine ⟨J7.unpinned, T.keep _ _ _ st5 fun b hb o e => (J7.pin (b, o) (List.mem_append_right _ (List.mem_append_right _ (mem_pinsAt hb e)))).1, fun b hb => ?_⟩
        obtain ⟨o, e, d⟩ := T.obj _ _ st5 b hb
        exact (J7.pin (b, o) (List.mem_append_right _ (List.mem_append_right _ (mem_pinsAt hb e)))).2.1
      show wpAny _ _ (assign tg (cxD X scope cl G2.objs.size s2 H2 (ts ++ js.map (·.2)) fp).env u) _ _ s5
      refine wpAny_mono (hg' _ s5 _ H5 xv u _ J5' r5 (step xv H5 y5)) (fun _ s6 ⟨σ6, H6, J6, q6⟩ => ?_) fun _ _ z => z
      refine wpAny_mono (hif' _ s6 _ H6 _ J6 q6) (fun b s7 ⟨H7, J7, q7⟩ => ?_) fun _ _ z => z
      cases b with
      | false =>
        rw [if_neg Bool.false_ne_true] at q7 ⊢
        obtain ⟨J8, st8, fr8⟩ := back J7
        exact ⟨m', hm, i + 1, ys, σ6, H7, J8, st8, fr8, q7⟩
      | true =>
        rw [if_pos rfl] at q7 ⊢
        refine wpAny_mono (he' _ s7 _ H7 _ J7 q7) (fun yv s8 ⟨y, H8, J8, r8, hD8, hz8, w8⟩ => ?_) fun _ _ z => z
        refine wpAny_mono (mt_append (X := cxD X scope cl G2.objs.size s2 H2 (ts ++ js.map (·.2)) fp) _ s8 _ H8 (.ref s2.heap.objs.size) [y] (.ref s2.heap.objs.size) [yv] (fun v H' => W (i + 1) m' (ys ++ [y]) σ6 H') J8 rfl (.cons r8 .nil) ⟨s2.heap.objs.size, ys, y, rfl, rfl, hD8, hz8, w8⟩)
          (fun _ s9 ⟨_, H9, J9, _, w9⟩ => ?_) fun _ _ z => z
        obtain ⟨J10, st10, fr10⟩ := back J9
        exact ⟨m', hm, i + 1, ys ++ [y], σ6, H9, J10, st10, fr10, w9⟩
  exact codeAny_compStart_list (loop _ rfl) (T.self _ _ _ _ _ st4 (loop _ rfl))
end L2
namespace L2
open PySem PySem.Spec PyProof.Rows
end L2
namespace L2
open PySem PySem.Spec PyProof.Rows
def fillK (kvs acc : List (Key × V)) : List (Key × V) := kvs.foldl (fun a p => putK a p.1 p.2) acc
section
variable {X : Cx} {pins : List (Addr × Obj)} {σ : St} {H : Hp} {s : Shared}
theorem Paired.at_ {α β : Type} {F : α → β → Prop} : ∀ {xs : List α} {ys : List β}, Paired F xs ys → ∀ (m : Nat) (y : β), ys[m]? = some y → ∃ x, xs[m]? = some x ∧ F x y
  | _, _, .nil, m, y, e => by cases m <;> cases e
  | _, _, .cons h t, 0, y, e => by cases e; exact ⟨_, rfl, h⟩
  | _, _, .cons h t, m + 1, y, e => Paired.at_ t m y e
end
end L2
namespace L2
open PySem PySem.Spec PyProof.Rows
def PlainV (v : V) : Prop := flatV v = true ∨ ∃ r, v = .ref r
theorem eqV_self {x : V} (h : flatV x = true) : eqV x x = true := by
  cases x with
  | non => rfl
  | bl b => exact beq_self_eq_true b
  | int i => exact beq_self_eq_true i
  | str z => exact beq_self_eq_true z
  | _ => cases h
theorem eq_at_self {A : Around} {s : Shared} {x : V} {u v : Value} (h : PlainV x) (ru : RelV x u) (rv : RelV x v) : SeqAt.EqAt A s u v true := by
  rcases h with h | ⟨r, rfl⟩
  · have q := eqAt_V (A := A) (s := s) ru rv h h
    rw [eqV_self h] at q
    exact q
  · cases (show u = Value.ref r from ru)
    cases (show v = Value.ref r from rv)
    exact .same _
end L2
namespace L2
open PySem PySem.Spec PyProof.Rows
section
variable {K : PySem.W.Frag} {a D : Addr} {xs : List V} {ts : List Str} {js : List (Nat × Str)} {g : TG} {tif : TT} {te : TE} {R : Hp → Prop} {σ : St} {H : Hp}
theorem compG_list (Pv : Nat → List V → St → Hp → Prop) (h0 : Pv 0 [] (capS ts js σ) (upd H D (.lst []))) (hl : ∀ i ys σ H, i ≤ xs.length → Pv i ys σ H → SqL K H a xs)
    (hs : ∀ i x ys σ H, xs[i]? = some x → Pv i ys σ H → g x σ H fun σ2 H2 => tif σ2 H2 fun b H3 => if b = true then te σ2 H3 fun y H4 => H4 D = some (.lst ys) ∧ ys.length < sizeLine ∧ Pv (i + 1) (ys ++ [y]) σ2 (upd H4 D (.lst (ys ++ [y]))) else Pv (i + 1) ys σ2 H3)
    (hd : ∀ ys σ H, Pv xs.length ys σ H → R H) :
    ∃ W : Nat → Nat → List V → St → Hp → Prop, (∃ m, W 0 m [] (capS ts js σ) (upd H D (.lst []))) ∧
  ∀ i m ys σ' H, W i m ys σ' H → ((Itl K a).stop i H ∧ R H) ∨ ((Itl K a).go i H ∧ ∃ m', m' < m ∧ ∀ x H', (Itl K a).yld i H x H' → g x σ' H' fun σ2 H2 => tif σ2 H2 fun b H3 =>
    if b = true then te σ2 H3 fun y H4 => H4 D = some (.lst ys) ∧ ys.length < sizeLine ∧ W (i + 1) m' (ys ++ [y]) σ2 (upd H4 D (.lst (ys ++ [y]))) else W (i + 1) m' ys σ2 H3) := by
  refine ⟨fun i m ys σ H => m = xs.length - i ∧ i ≤ xs.length ∧ Pv i ys σ H, ⟨xs.length, by simp, Nat.zero_le _, h0⟩, ?_⟩
  rintro i m ys σ' H ⟨rfl, hi, p⟩
  have q := hl i ys σ' H hi p
  by_cases hlt : i < xs.length
  · refine .inr ⟨⟨xs, xs[i], q, by simp [hlt]⟩, xs.length - (i + 1), by omega, fun x H' y => ?_⟩
    obtain ⟨e, y⟩ := y
    subst e
    have z := hs i x ys σ' _ (y xs q) p
    have h1 : (i + 1 ≤ xs.length) = True := eq_true hlt
    simp only [h1, true_and]
    exact z
  · have e : i = xs.length := by omega
    subst e
    exact .inl ⟨⟨xs, q, Nat.le_refl _⟩, hd ys σ' H p⟩
end
theorem call_isinstL {X : Cx} : CallR X (.builtin "isinstance") (fun xs H Q => ∃ a ys n b, xs = [.ref a, .ty n] ∧ SqL X.K H a ys ∧ PySem.W.kitOne X.K (.type "list") (.type n) = some b ∧ Q (.bl b) H) := by
  intro pins s σ H xs us Q I r h
  obtain ⟨a, ys, n, b, rfl, hq, e, q⟩ := h
  obtain ⟨u, w', rfl, rx, rn⟩ := vals2 r
  cases (show u = Value.ref a from rx)
  cases (show w' = Value.type n from rn)
  obtain ⟨its, _, pl, _⟩ := I.list hq
  obtain ⟨o, h1, h2, _⟩ := pl.isList
  exact PySem.W.kia_one PySem.W.kitx_list I.kIn ⟨o, h1, h2⟩ e (fun z => nomatch z) fun tk => ⟨.bl b, H, I.tok _, rfl, q⟩
theorem kit_self {K : PySem.W.Frag} {t : Value} : PySem.W.kitOne K t t = some true := by unfold PySem.W.kitOne; rw [if_pos (beq_self_eq_true t)]
def tCutS (t : TS) : TS := fun D σ H => ∃ R : St → Hp → Prop, t { D with nx := R } σ H ∧ ∀ σ' H', R σ' H' → D.nx σ' H'
theorem ps_cutS {X : Cx} {st : Stmt} {t : TS} (h : PS X st t) : PS X st (tCutS t) := by
  intro pins s σ H D I ⟨R, q, m⟩
  refine thn (h pins s σ H _ I q) fun f s1 z => ?_
  cases f with
  | next => obtain ⟨σ', H', I', r⟩ := z; exact ⟨σ', H', I', m _ _ r⟩
  | ret v => exact z
  | brk => exact z
  | cont => exact z
def CalleeD (P : Program) (w : World) (K : PySem.W.Frag) (mg : Str → Option Value) (base : Heap) (k : Nat) (x : Str) (ps : List Str) (sp : Sp) : Prop :=
  ∃ f fd, FnOk P w K mg base CX0 k f fd ps sp ∧ Binds K fd ps [] ∧ PySem.W.keepIn K (.ref f) = true ∧ mg x = some (.ref f)
theorem CalleeD.mono {P : Program} {w : World} {K : PySem.W.Frag} {mg : Str → Option Value} {base : Heap} {j k : Nat} {x : Str} {ps : List Str} {sp : Sp} (c : CalleeD P w K mg base j x ps sp) (h : j ≤ k) : CalleeD P w K mg base k x ps sp :=
  let ⟨f, fd, a, b⟩ := c; ⟨f, fd, a.mono h, b⟩
theorem pe_fn {X : Cx} {k : Nat} {x : Str} {ps : List Str} {sp : Sp} {e : Expr} {es : List Expr} {t : TA} {p pos : Pos} (c : CalleeD X.prog X.w X.K X.mg X.base k x ps sp) (hr : Room k X.A) (hg : Gl X x) (ha : PA X (e :: es) t)
    (hdb : (x == ("__debug__" : Str)) = false := by decide) (he : starEach (e :: es) X.env = (false, eval e X.env) :: starEach es X.env := by rfl) (hpl : (backTo pos (starEach es X.env)).any (·.1) = false := by rfl) :
    PE X (.Call (.Name x p) (e :: es) [] pos) (tCall sp [] E0 t) := by
  obtain ⟨f, fd, G, b, kp, m⟩ := c
  exact pe_call G hr hg m kp b .nil pass0 ha hdb he hpl
theorem fits {n : Nat} (h : n ≤ 1000000) : n ≤ sizeLine := Nat.le_trans h (by decide)
theorem fits' {n : Nat} (h : n ≤ 1000000) : n < sizeLine := Nat.lt_of_le_of_lt h (by decide)
theorem same_laid {H : Hp} {p : Addr} (h : H p = none) (o : HO) : Same H (upd H p o) := fun b u q => by rw [upd_ne (ne_of_none q h)]; exact q
theorem Same.tup {K : PySem.W.Frag} {H H' : Hp} {a : Addr} {xs : List V} (e : Same H H') (h : SqT K H a xs) : SqT K H' a xs := by
  rcases h with (h | ⟨o, h⟩) | h
  · exact .inl (.inl (e _ _ h))
  · exact .inl (.inr ⟨o, e _ _ h⟩)
  · exact .inr h
end L2
namespace L2
open PySem PySem.Spec PyProof.Rows
section
variable {prog : Program} {w : World} {A : Around} {E : Value → Shared → Prop} {s : Shared}
end
end L2
namespace L2
open PySem PySem.Spec PyProof.Rows
open PySem.AutoSeq1 (wpAny_loadPart')
section
variable {prog : Program} {w : World} {A : Around} {E : Value → Shared → Prop} {s : Shared}
end
end L2
namespace L2
open PySem
section
variable {K : PySem.W.Frag} {a D : Addr} {xs : List V} {ts : List Str} {js : List (Nat × Str)} {g : TG} {tif : TT} {te : TE} {R : Hp → Prop} {σ : St} {H : Hp}
end
end L2
namespace L2
open PySem
section
variable {prog : Program} {w : World} {K : Type} [DecidableEq K] {knd : KeyKind prog w K} {A : Around} {E : Value → Shared → Prop}
end
section
variable {X : Cx} {o e : Expr} {apos cpos : Pos} {td ty : TE}
end
end L2
namespace L2
open PySem PySem.Spec PyProof.Rows
def epOf (o : Obj) : Nat := match o.data with
  | .dict _ ep => ep
  | _ => 0
section
variable {d D : Addr} {o : Obj} {kvs : List (Key × V)} {ts : List Str} {js : List (Nat × Str)} {g : TG} {tif : TT} {te : TE} {R : Hp → Prop} {σ : St} {H : Hp}
end
end L2
namespace L2
open PySem PySem.Spec PyProof.Rows
end L2
namespace L2
open PySem PySem.Spec PyProof.Rows
theorem ps_setC {X : Cx} {elt iter tg : Expr} {iy : Nat} {y : Str} {py spos : Pos} {ifs : List Expr} {scope : Scope} {pos : Pos} {wi : TI} {g : TG} {tif : TT} {te : TE} (ts : List Str) (js : List (Nat × Str)) (hN : X.N.Nodup) (hiy : X.N[iy]? = some y) (hy : X.env.scope.names.lookup y = some .local) (hc : X.calm = true) (hi : PI X tg iter wi)
    (cp : Caps X scope js) (hcell : ∀ y ∈ scope.names, y.2 ≠ .cell) (hkind : scope.kind = .function)
    (hnames : ∀ y ∈ scope.names, y.2 = .local → scope.names.lookup y.1 = some .local)
    (hg : ∀ cl C s1 H1 fp, PG (cxD X scope cl C s1 H1 (ts ++ js.map (·.2)) fp) tg g)
    (hif : ∀ cl C s1 H1 fp, PIfs (cxD X scope cl C s1 H1 (ts ++ js.map (·.2)) fp) ifs tif) (he : ∀ cl C s1 H1 fp, PE (cxD X scope cl C s1 H1 (ts ++ js.map (·.2)) fp) elt te)
    (hsw : swapsWith (.ListComp elt [⟨tg, iter, ifs, 0⟩] scope pos) (some (.Name y py)) spos.line X.env = pure true := by rfl) (hs : ∀ x, foldedSetIterable iter X.env x = pure x := by intro _; rfl) :
    PS X (.Assign [.Name y py] (.ListComp elt [⟨tg, iter, ifs, 0⟩] scope pos) spos) (tAsg (tCompG wi ts js g tif te) (gName iy)) := by
  intro pins s σ H DD I h
  rw [exec_Assign_Name_used _ _ _ _ hsw]
  refine wpAny_bind (wpAny_standAt (wpAny_bind ?_))
  show wpAny _ _ (do let _ ← comprehension (.ListComp elt [⟨tg, iter, ifs, 0⟩] scope pos) scope X.env _ (newList []) false (eval iter X.env) (some (assign (.Name y py) X.env))) _ _ s
  obtain ⟨cl, hcl⟩ := clos_of (env := X.env) (scope := scope) fun y hy => I.ok.has y (.inl (cp.all y hy))
  refine wpAny_bind (wpAny_mono (wpAny_comprehension_free (use := some (assign (.Name y py) X.env)) (Q := fun _ s' => SP X pins DD .next s') rfl hs hcl.eq hkind hnames (thn (hi pins s σ H _ I h) fun v s1 h1 => thn h1 fun itv s2 h2 => ?_)) (fun _ s' hq => wpAny_pure (wpAny_pure hq)) fun _ _ e => e)
  obtain ⟨it, fp, tn, J, H2, e, I2, T, st2, f2, h2⟩ := h2
  subst e
  obtain ⟨W, ⟨m0, w0⟩, turn⟩ := h2 s2.heap.objs.size I2.fresh
  have hfl : ∀ b ∈ fp, b < s2.heap.objs.size := fun b hb => by obtain ⟨o, e, _⟩ := T.obj _ _ st2 b hb; exact Heap.lt_size e
  refine wpAny_newObj_type (wpAny_newFunctionEnv hcell (by intro y hy; simp at hy) (fun h₁ hns₁ hsb₁ => ?_) hkind)
  dsimp only at hns₁ hsb₁ ⊢
  generalize hH2 : s2.heap.push { cls := .type "list", dict := none, data := .seq ([] : List Value).toArray } = G2 at hns₁ hsb₁ ⊢
  have hCs : G2.objs.size = s2.heap.objs.size + 1 := by rw [← hH2, Heap.size_push]
  have hDC : s2.heap.objs.size ≠ G2.objs.size := by rw [hCs]; exact Nat.ne_of_lt (Nat.lt_succ_self _)
  have old : ∀ b o, s2.heap.get? b = some o → h₁.get? b = some o := fun b o e =>
    hsb₁.extBut b o (by rw [hCs]; exact Nat.ne_of_lt (Nat.lt_succ_of_lt (Heap.lt_size e))) (Heap.get?_push_of_some _ (hH2 ▸ Heap.get?_push_of_some _ e))
  have hacc : h₁.get? s2.heap.objs.size = some { cls := .type "list", data := .seq ([] : List Value).toArray 0 } := hsb₁.extBut _ _ hDC (Heap.get?_push_of_some _ (hH2 ▸ Heap.get?_push_size _ rfl))
  generalize hX2 : cxD X scope cl G2.objs.size s2 H2 (ts ++ js.map (·.2)) fp = X2
  have I4 : Inv X2 [] (capS ts js σ) (upd H2 s2.heap.objs.size (.lst [])) { s2 with heap := h₁, toks := s2.toks + ([] : List (Str × Value)).length } := by
    rw [← hX2]
    exact inv_compG I2 f2 hfl hkind hcell cp hcl (by rw [hCs]; exact Nat.lt_succ_self _) rfl rfl old hns₁ hacc
  have x1 : X2.prog = X.prog := by rw [← hX2]; rfl
  have x2 : X2.w = X.w := by rw [← hX2]; rfl
  have x3 : X2.K = X.K := by rw [← hX2]; rfl
  have x4 : X2.calm = true := by rw [← hX2]; exact hc
  have x5 : X2.A = X.A := by rw [← hX2]; rfl
  have x6 : X2.env = compEnvC scope cl G2.objs.size X.env := by rw [← hX2]; rfl
  have x7 : X2.xe = fun _ _ => False := by rw [← hX2]; rfl
  have hg' : PG X2 tg g := by rw [← hX2]; exact hg _ _ _ _ _
  have hif' : PIfs X2 ifs tif := by rw [← hX2]; exact hif _ _ _ _ _
  have he' : PE X2 elt te := by rw [← hX2]; exact he _ _ _ _ _
  have st4 : tn 0 h₁ := T.keep _ _ _ st2 fun b _ o e => old b o e
  have stat : ∀ {H' : Hp} {pins' : List (Addr × Obj)}, (∀ b ∈ fp, H' b = none) → (∀ p ∈ pins', p.1 ∉ fp) → ∀ b ∈ fp, FpOk X2 pins' H' b := fun {H' pins'} hn hp b hb => by
    have o4 := I4.ok
    subst hX2
    exact ⟨hn b hb, (o4.exf b hb).1, o4.exfs b hb, .inl hb, (o4.exf b hb).2, fun p hp' => by
      have hp2 : p ∈ ([] : List (Addr × Obj)) ++ pins' := hp'
      rw [List.nil_append] at hp2
      intro z; exact hp p hp2 (by rw [z]; exact hb)⟩
  have fin : ∀ {s' : Shared} {σ' : St} {H' : Hp}, Inv X2 [] σ' H' s' → DD.nx (σ.set iy (some (.ref s2.heap.objs.size))) H' →
      compPost (model X.prog X.w) X.A X.xe (some (assign (.Name y py) X.env)) (fun _ s' => SP X pins DD .next s') (.ref s2.heap.objs.size) G2.objs.size (.ok .next) s' := fun {s' σ' H'} J' q => by
    subst hX2
    obtain ⟨m', hn', _⟩ := J'.loc
    have I5 : Inv X pins σ H' s' := I2.call' (s' := s') J'.os J'.base J'.hok J'.bare fun b hb => by
      obtain ⟨_, f1, _, f3, f4, f5⟩ := f2 b hb
      exact ⟨f3, f1, f4, f5⟩
    obtain ⟨f0, f1, _, f3, f4, f5⟩ := I2.fpOk (H' := H') (b := G2.objs.size) (by rw [hCs]; exact Nat.le_succ _) J'.free
    show wpAny _ _ (assign (.Name y py) X.env (.ref s2.heap.objs.size)) _ _ s'
    refine wpAny_assign_Name (store_ok2 I5 hN hiy (.inl hy) (v := .ref s2.heap.objs.size) rfl (fun s'' I6 ⟨a, sb, ha⟩ => ?_) (.inr hy))
    have nCa : G2.objs.size ≠ a := by
      rcases ha with ha | ha
      · rw [ha]; exact f1
      · exact (f4 _ _ ha).symm
    refine ⟨m', hn'.sameBut sb nCa, fun h' hs' => ?_⟩
    exact ⟨_, H', I6.turned (t' := s''.toks) (fun b o hb e => (hs'.2 b hb).trans e) f0 f1 f3 f4 f5, q⟩
  have loop : ∀ s₃ : Shared, s₃ = { s2 with heap := h₁, toks := s2.toks + ([] : List (Str × Value)).length } →
      codeAny (model X.prog X.w) X.A (.compLoop (.ListComp elt [⟨tg, iter, ifs, 0⟩] scope pos) 0 (.ref it) (.ref s2.heap.objs.size) (compEnvC scope cl G2.objs.size X.env))
        (compPost (model X.prog X.w) X.A X.xe (some (assign (.Name y py) X.env)) (fun _ s' => SP X pins DD .next s') (.ref s2.heap.objs.size) G2.objs.size) s₃ := by
    rintro s₃ rfl
    subst hX2
    refine compLoop_go (fun n s' => ∃ i ys σ' H', Inv (cxD X scope cl G2.objs.size s2 H2 (ts ++ js.map (·.2)) fp) [] σ' H' s' ∧ tn i s'.heap ∧ (∀ b ∈ fp, H' b = none) ∧ W i n ys σ' H') ?_ m0
      ⟨0, [], _, _, I4, st4, fun b hb => by rw [upd_ne (Nat.ne_of_lt (hfl b hb))]; exact (f2 b hb).1, w0⟩
    rintro n s' ⟨i, ys, σ0, H', J', st', fr', w'⟩
    rcases turn i n ys σ0 H' w' with ⟨stop, q⟩ | ⟨go, m', hm, step⟩
    · refine wpAny_mono (T.done (cxD X scope cl G2.objs.size s2 H2 (ts ++ js.map (·.2)) fp) rfl rfl rfl hc i [] s' _ H' (fun _ _ => False) J' (stat fr' (by simp)) st' stop) (fun r s4 ⟨hr, J4⟩ => ?_) fun _ _ z => z
      subst hr
      exact fin J4 q
    · refine wpAny_mono (T.item (cxD X scope cl G2.objs.size s2 H2 (ts ++ js.map (·.2)) fp) rfl rfl rfl hc i [] s' _ H' (fun _ _ => False) J' (stat fr' (by simp)) st' go) (fun r s4 ⟨u, hr, h4⟩ => ?_) fun _ _ z => z
      subst hr
      refine wpAny_mono h4 (fun _ s5 ⟨xv, H5, J5, r5, y5, st5, fr5⟩ => ?_) fun _ _ z => z
      have J5' := J5.pinned (stat fr5 (by simp)) (T.obj _ _ st5)
      have back : ∀ {s7 : Shared} {σ7 : St} {H7 : Hp}, Inv (cxD X scope cl G2.objs.size s2 H2 (ts ++ js.map (·.2)) fp) ([] ++ pinsAt fp s5.heap) σ7 H7 s7 → Inv (cxD X scope cl G2.objs.size s2 H2 (ts ++ js.map (·.2)) fp) [] σ7 H7 s7 ∧ tn (i + 1) s7.heap ∧ ∀ b ∈ fp, H7 b = none := fun {s7 σ7 H7} J7 => by
        refine ⟨J7.unpinned, T.keep _ _ _ st5 fun b hb o e => (J7.pin (b, o) (List.mem_append_right _ (List.mem_append_right _ (mem_pinsAt hb e)))).1, fun b hb => ?_⟩
        obtain ⟨o, e, d⟩ := T.obj _ _ st5 b hb
        exact (J7.pin (b, o) (List.mem_append_right _ (List.mem_append_right _ (mem_pinsAt hb e)))).2.1
      show wpAny _ _ (assign tg (cxD X scope cl G2.objs.size s2 H2 (ts ++ js.map (·.2)) fp).env u) _ _ s5
      refine wpAny_mono (hg' _ s5 _ H5 xv u _ J5' r5 (step xv H5 y5)) (fun _ s6 ⟨σ6, H6, J6, q6⟩ => ?_) fun _ _ z => z
      refine wpAny_mono (hif' _ s6 _ H6 _ J6 q6) (fun b s7 ⟨H7, J7, q7⟩ => ?_) fun _ _ z => z
      cases b with
      | false =>
        rw [if_neg Bool.false_ne_true] at q7 ⊢
        obtain ⟨J8, st8, fr8⟩ := back J7
        exact ⟨m', hm, i + 1, ys, σ6, H7, J8, st8, fr8, q7⟩
      | true =>
        rw [if_pos rfl] at q7 ⊢
        refine wpAny_mono (he' _ s7 _ H7 _ J7 q7) (fun yv s8 ⟨y, H8, J8, r8, hD8, hz8, w8⟩ => ?_) fun _ _ z => z
        refine wpAny_mono (mt_append (X := cxD X scope cl G2.objs.size s2 H2 (ts ++ js.map (·.2)) fp) _ s8 _ H8 (.ref s2.heap.objs.size) [y] (.ref s2.heap.objs.size) [yv] (fun v H' => W (i + 1) m' (ys ++ [y]) σ6 H') J8 rfl (.cons r8 .nil) ⟨s2.heap.objs.size, ys, y, rfl, rfl, hD8, hz8, w8⟩)
          (fun _ s9 ⟨_, H9, J9, _, w9⟩ => ?_) fun _ _ z => z
        obtain ⟨J10, st10, fr10⟩ := back J9
        exact ⟨m', hm, i + 1, ys ++ [y], σ6, H9, J10, st10, fr10, w9⟩
  exact codeAny_compStart_list (loop _ rfl) (T.self _ _ _ _ _ st4 (loop _ rfl))
end L2
namespace L2
open PySem PySem.Spec PyProof.Rows
section
variable {prog : Program} {w : World} {A : Around} {E : Value → Shared → Prop} {s : Shared}
end
end L2
namespace L2
open PySem PySem.Spec PyProof.Rows
end L2
namespace L2
open PySem PySem.Spec PyProof.Rows
end L2
namespace L2
open PySem PySem.Spec PyProof.Rows
end L2
namespace L2
open PySem
theorem call_lenK {X : Cx} (K : PySem.W.Frag) (hK : X.K = K := by rfl) : CallR X (.builtin "len") (fun xs H Q => XLen xs (fun p ys => SqL K H p ys ∨ SqT K H p ys) fun ys => Q (.int ys.length) H) := by
  subst hK
  exact call_len_seq
end L2
namespace L2
open PySem PySem.Spec PyProof.Rows
def DEq (K : PySem.W.Frag) (H : Hp) : Nat → V → V → Prop
  | 0, x, y => x = y ∧ PlainV x
  | n + 1, x, y => (x = y ∧ PlainV x) ∨ ∃ a b xs ys, x = .ref a ∧ y = .ref b ∧ ((SqL K H a xs ∧ SqL K H b ys) ∨ (SqT K H a xs ∧ SqT K H b ys)) ∧ Paired (DEq K H n) xs ys
theorem DEq.self {K : PySem.W.Frag} {H : Hp} {x : V} (h : PlainV x) : ∀ n, DEq K H n x x
  | 0 => ⟨rfl, h⟩
  | _ + 1 => .inl ⟨rfl, h⟩
theorem deq_items {A : Around} {s : Shared} {F : V → V → Prop} {xs ys : List V} {its its2 : List Value} (r : Vals xs its) (r2 : Vals ys its2) (p : Paired F xs ys) (hF : ∀ x y u v, F x y → RelV x u → RelV y v → SeqAt.EqAt A s u v true) (j : Nat) (h1 : j < its.toArray.size) (h2 : j < its2.toArray.size) :
    SeqAt.EqAt A s its.toArray[j] its2.toArray[j] true := by
  have l1 := r.length
  have l2 := r2.length
  have k1 : j < its.length := by simpa using h1
  have k2 : j < its2.length := by simpa using h2
  have g2 : ys[j]? = some (ys[j]'(by omega)) := List.getElem?_eq_getElem (by omega)
  obtain ⟨x, g1, fx⟩ := Paired.at_ p j _ g2
  obtain ⟨u1, e1, q1⟩ := r.get g1
  obtain ⟨u2, e2, q2⟩ := r2.get g2
  have f1 : its.toArray[j] = u1 := by
    have := (List.getElem?_eq_some_iff.mp e1).2
    simpa using this
  have f2 : its2.toArray[j] = u2 := by
    have := (List.getElem?_eq_some_iff.mp e2).2
    simpa using this
  rw [f1, f2]
  exact hF _ _ _ _ fx q1 q2
theorem deq_eq {X : Cx} {pins : List (Addr × Obj)} {σ : St} {H : Hp} {s : Shared} (I : Inv X pins σ H s) : ∀ (n : Nat) (A : Around) (x y : V) (u v : Value), DEq X.K H n x y → RelV x u → RelV y v → A.units + n < cLine → SeqAt.EqAt A s u v true
  | 0, A, x, y, u, v, ⟨e, h⟩, ru, rv, _ => by subst e; exact eq_at_self h ru rv
  | n + 1, A, x, y, u, v, .inl ⟨e, h⟩, ru, rv, _ => by subst e; exact eq_at_self h ru rv
  | n + 1, A, x, y, u, v, .inr ⟨a, b, xs, ys, ex, ey, hs, p⟩, ru, rv, hu => by
    subst ex; subst ey
    cases (show u = Value.ref a from ru)
    cases (show v = Value.ref b from rv)
    by_cases e : a = b
    · subst e; exact .same _
    refine .of_refs e ?_
    have lp := Paired.length p
    rcases hs with ⟨ha, hb⟩ | ⟨ha, hb⟩
    · obtain ⟨its, r, pl, _⟩ := I.list ha
      obtain ⟨its2, r2, pl2, _⟩ := I.list hb
      have l1 := r.length
      have l2 := r2.length
      have q := SeqAt.RcAt.lists (A := A) (s := s) (e := fun _ => true) pl.isList pl2.isList (by simp only [List.size_toArray]; omega) (by omega) (fun j h1 h2 => deq_items r r2 p (fun x y u v d r1 r2 => deq_eq I n A.in1 x y u v d r1 r2 (by rw [Around.in1_units]; omega)) j h1 h2)
      have e : ((List.range its.toArray.size).all fun _ => true) = true := by simp
      rw [e] at q
      exact q
    · obtain ⟨its, r, pl, _⟩ := I.tuple ha
      obtain ⟨its2, r2, pl2, _⟩ := I.tuple hb
      have l1 := r.length
      have l2 := r2.length
      have q := SeqAt.RcAt.tuples (A := A) (s := s) (e := fun _ => true) pl pl2 (by omega) (fun j h1 h2 => deq_items r r2 p (fun x y u v d r1 r2 => deq_eq I n A.in1 x y u v d r1 r2 (by rw [Around.in1_units]; omega)) j h1 h2)
      have e1 : ((List.range (min its.toArray.size its2.toArray.size)).all (fun _ => true) && its.toArray.size == its2.toArray.size) = true := by
        have : its.toArray.size = its2.toArray.size := by simp only [List.size_toArray]; omega
        rw [this]
        simp
      rw [e1] at q
      exact q
def rDeep (K : PySem.W.Frag) (b : Bool) (n : Nat) : V → V → Hp → VK → Prop := fun x y H Q => ∃ p q xs ys, x = .ref p ∧ y = .ref q ∧ SqL K H p xs ∧ SqL K H q ys ∧ Paired (DEq K H n) xs ys ∧ Q (.bl b) H
theorem op_ne_deep {X : Cx} (n : Nat) (hu : X.A.units + (n + 1) < cLine) : OpR X (compareOp .NotEq) (rDeep X.K false n) := by
  intro pins s σ H x y v u Q I rx ry h
  obtain ⟨a, b, xs, ys, rfl, rfl, ha, hb, p, q⟩ := h
  cases rx
  cases ry
  obtain ⟨its, r, pl, hz⟩ := I.list ha
  obtain ⟨its2, r2, pl2, hz2⟩ := I.list hb
  have l1 := r.length
  have l2 := r2.length
  have lp := Paired.length p
  refine SeqAt.RcNeAt.lists (e := fun _ => true) pl.isList pl2.isList (by simp only [List.size_toArray]; omega) (by omega) (fun j h1 h2 => deq_items r r2 p (fun x y u v d r1 r2 => deq_eq I n X.A.in1 x y u v d r1 r2 (by rw [Around.in1_units]; omega)) j h1 h2) X.prog X.w X.xe _ ?_
  have e : (!(List.range its.toArray.size).all fun _ => true) = false := by simp
  rw [e]
  exact ⟨.bl false, H, I, rfl, q⟩
end L2
namespace L2
open PySem PySem.Spec PyProof.Rows
section
variable {prog : Program} {w : World} {A : Around} {E : Value → Shared → Prop} {s : Shared}
abbrev IsZip2 (h : Heap) (z : Addr) (f0 f1 : Value) (TI TO : Addr) : Prop := h.get? z = some { cls := .type "zip", data := .fields #[f0, f1, .bool false, .ref TI, .ref TO] }
end
end L2
namespace L2
open PySem PySem.Spec PyProof.Rows
end L2
namespace L2
open PySem PySem.Spec PyProof.Rows
structure ZSt (h : Heap) (z TI TO i1 i2 l1 l2 : Addr) (xs ys : Array Value) (i : Nat) : Prop where
  hz : ∃ f0 f1, IsZip2 h z f0 f1 TI TO ∧ (f0 = .none ∨ ∃ T : Nat, f0 = rawInt T)
  hI : IsPair h TI (.ref i1) (.ref i2)
  hO : ∃ a b, IsPair h TO a b
  h1 : h.IsTupleIter i1 l1 i
  h2 : h.IsTupleIter i2 l2 i
  t1 : h.IsTuple l1 xs
  t2 : h.IsTuple l2 ys
theorem tuple_at {h h' : Heap} {l : Addr} {xs : Array Value} (t : h.IsTuple l xs) (k : ∀ o, h.get? l = some o → h'.get? l = some o) : h'.IsTuple l xs := by
  obtain ⟨o, a, b, c⟩ := t
  exact ⟨o, k o a, b, c⟩
def AccOk (h : Heap) (N : Nat) (xs ys acc : Array Value) : Prop := ∃ Ts : List Nat, acc.toList = Ts.map Value.ref ∧ Ts.Pairwise (· < ·) ∧ ∀ (j T : Nat), Ts[j]? = some T → N ≤ T ∧ ∃ x y : Value, IsPair h T x y ∧ xs[j]? = some x ∧ ys[j]? = some y
theorem AccOk.keep {h h' : Heap} {N : Nat} {xs ys acc : Array Value} (a : AccOk h N xs ys acc) (k : ∀ (T : Nat) o, N ≤ T → h.get? T = some o → h'.get? T = some o) : AccOk h' N xs ys acc := by
  obtain ⟨Ts, e1, e2, e3⟩ := a
  refine ⟨Ts, e1, e2, fun j T hj => ?_⟩
  obtain ⟨l, x, y, p, q⟩ := e3 j T hj
  exact ⟨l, x, y, k T _ l p, q⟩
theorem AccOk.more {h : Heap} {N T0 : Nat} {xs ys acc : Array Value} {x y : Value} (a : AccOk h N xs ys acc) (lt : ∀ (Ts : List Nat), acc.toList = Ts.map Value.ref → ∀ T ∈ Ts, T < T0) (hN : N ≤ T0) (p : IsPair h T0 x y) (hx : xs[acc.size]? = some x) (hy : ys[acc.size]? = some y) : AccOk h N xs ys (acc.push (.ref T0)) := by
  obtain ⟨Ts, e1, e2, e3⟩ := a
  have el : Ts.length = acc.size := by
    have := congrArg List.length e1
    rw [List.length_map] at this
    rw [← this]; simp
  refine ⟨Ts ++ [T0], by rw [Array.toList_push, e1, List.map_append]; rfl, List.pairwise_append.mpr ⟨e2, by simp, fun T hT b hb => by rw [List.mem_singleton.mp hb]; exact lt Ts e1 T hT⟩, fun j T hj => ?_⟩
  by_cases c : j < Ts.length
  · rw [List.getElem?_append_left c] at hj
    exact e3 j T hj
  · rw [List.getElem?_append_right (by omega)] at hj
    have c2 : j - Ts.length = 0 := by
      have := (List.getElem?_eq_some_iff.mp hj).1
      simp at this
      omega
    rw [c2] at hj
    cases hj
    have : j = acc.size := by omega
    rw [this]
    exact ⟨hN, x, y, p, hx, hy⟩
end L2
namespace L2
open PySem PySem.Spec PyProof.Rows
theorem ZSt.keep {h h' : Heap} {z TI TO i1 i2 l1 l2 : Addr} {xs ys : Array Value} {i : Nat} (st : ZSt h z TI TO i1 i2 l1 l2 xs ys i) (k : ∀ b o, h.get? b = some o → h'.get? b = some o) : ZSt h' z TI TO i1 i2 l1 l2 xs ys i := by
  obtain ⟨⟨f0, f1, a, b⟩, hI, ⟨c, d, hO⟩, h1, h2, t1, t2⟩ := st
  exact ⟨⟨f0, f1, k _ _ a, b⟩, k _ _ hI, ⟨c, d, k _ _ hO⟩, h1.at fun o q => k _ _ q, h2.at fun o q => k _ _ q, tuple_at t1 fun o q => k _ _ q, tuple_at t2 fun o q => k _ _ q⟩
end L2
namespace L2
open PySem PySem.Spec PyProof.Rows
end L2
namespace HT
open PySem PyProof.Rows
section
variable {prog : Program} {w : World} {A : Around} {E : Value → Shared → Prop} {s : Shared}
end
end HT
namespace L2
open PySem PySem.Spec PyProof.Rows
end L2
namespace L2
open PySem
end L2
namespace L2
open PySem PySem.Spec PyProof.Rows
section
variable {prog : Program} {w : World} {A : Around} {E : Value → Shared → Prop} {s : Shared}
end
theorem Inv.turnedT {X : Cx} {pins : List (Addr × Obj)} {σ : St} {H : Hp} {s : Shared} {h' : Heap} {t' : Nat} {fp : List Addr} {x y : V} {u v : Value} (I : Inv X pins σ H s) (hf : ∀ b ∈ fp, FpOk X pins H b) (k : ∀ b o, b ∉ fp → s.heap.get? b = some o → h'.get? b = some o)
    (T2 : IsPair h' s.heap.objs.size u v) (ru : RelV x u) (rv : RelV y v) : Inv X pins σ (upd H s.heap.objs.size (.tup [x, y])) { s with heap := h', toks := t' } := by
  have fT : H s.heap.objs.size = none := I.hok.fresh (Nat.le_refl _)
  have tr : ∀ b v, H b = some v → b ∉ fp := fun b v q hb => by rw [(hf b hb).1] at q; cases q
  have lt : ∀ b o, s.heap.get? b = some o → b ≠ s.heap.objs.size := fun b o q => Nat.ne_of_lt (Heap.lt_size q)
  refine I.call (g' := s.gens) (t' := t') (d' := s.drawn) (ch := fp) ⟨fun b o q _ _ c => k b o c q, fun b o q _ _ c => ⟨o.slots, k b o c q⟩,
    fun b o q n _ => by rw [upd_ne (lt b o q)]; exact n, fun b o q c => ⟨o, k b o c q⟩, fun b ys q => by rw [upd_ne (ne_of_none q fT)]; exact q, fun b o v q => by rw [upd_ne (ne_of_none q fT)]; exact q,
    fun b ps q => ⟨#[], by rw [upd_ne (ne_of_none q fT), q]; simp⟩⟩ (fun b w q => ?_) I.bare (fun b hb => ?_)
  · by_cases hb : b = s.heap.objs.size
    · subst hb
      rw [upd_same] at q
      cases q
      exact ⟨by show 2 ≤ sizeLine; decide, [u, v], .cons ru (.cons rv .nil), _, T2, rfl, _, rfl⟩
    · rw [upd_ne hb] at q
      refine (I.hok b w q).stay (fun c o hc' z => ?_) (fun c q' => by rw [upd_ne (ne_of_none q' fT)]; exact q') fun c ys q' => by rw [upd_ne (ne_of_none q' fT)]; exact q'
      rcases hc' with rfl | hc'
      · exact k c o (tr c _ q) z
      · exact k c o (tr c _ hc') z
  · have f := hf b hb
    exact ⟨f.2.2.2.1, f.2.1, f.2.2.2.2.1, f.2.2.2.2.2⟩
structure ZTn (h : Heap) (z TI TO i1 i2 l1 l2 : Addr) (i : Nat) : Prop where
  hz : ∃ f0 f1, IsZip2 h z f0 f1 TI TO ∧ (f0 = .none ∨ ∃ T : Nat, f0 = rawInt T)
  hI : IsPair h TI (.ref i1) (.ref i2)
  hO : ∃ a b, IsPair h TO a b
  h1 : h.IsTupleIter i1 l1 i
  h2 : h.IsTupleIter i2 l2 i
end L2
namespace HT
open PySem PySem.Spec PyProof.Rows
section
variable {prog : Program} {w : World} {A : Around} {E : Value → Shared → Prop} {s : Shared}
end
end HT
namespace L2
open PySem PySem.Spec PyProof.Rows
end L2
namespace L2
open PySem PySem.Spec PyProof.Rows
theorem lt_trans : ∀ a b c : List Nat, ltCps b a = false → ltCps c b = false → ltCps c a = false
  | [], b, [], _, _ => ltCps.eq_1
  | [], b, _ :: _, _, _ => ltCps.eq_3 _ _
  | x :: r, [], c, h, _ => by rw [ltCps.eq_2] at h; cases h
  | x :: r, y :: t, [], _, k => by rw [ltCps.eq_2] at k; cases k
  | x :: r, y :: t, z :: u, h, k => by
    rw [ltCps.eq_4, Bool.or_eq_false_iff, decide_eq_false_iff_not] at h k ⊢
    refine ⟨by omega, ?_⟩
    by_cases e : z = x
    · have e1 : y = x := by omega
      subst e; subst e1
      have h2 := h.2
      have k2 := k.2
      rw [beq_self_eq_true, Bool.true_and] at h2 k2 ⊢
      exact lt_trans r t u h2 k2
    · rw [beq_eq_false_iff_ne.mpr e, Bool.false_and]
end L2
namespace L2
open PySem PySem.Spec PyProof.Rows
end L2
namespace L2
open PySem PySem.Spec PyProof.Rows
section
variable {prog : Program} {w : World} {A : Around} {E : Value → Shared → Prop} {s : Shared}
end
end L2
namespace L2
open PySem PySem.Spec PyProof.Rows
end L2
namespace L2
open PySem PySem.Spec PyProof.Rows
def eqL : List V → List V → Bool
  | [], [] => true
  | x :: xs, y :: ys => eqV x y && eqL xs ys
  | _, _ => false
theorem eqL_range : ∀ (xs ys : List V), ((List.range (min xs.length ys.length)).all (fun j => eqV (xs.getD j .non) (ys.getD j .non)) && (xs.length == ys.length)) = eqL xs ys
  | [], [] => rfl
  | [], y :: ys => by simp [eqL]
  | x :: xs, [] => by simp [eqL]
  | x :: xs, y :: ys => by
    have ih := eqL_range xs ys
    show _ = (eqV x y && eqL xs ys)
    rw [← ih, List.length_cons, List.length_cons, Nat.succ_min_succ, List.range_succ_eq_map, List.all_cons, List.all_map]
    simp only [Function.comp_def, List.getD_cons_zero, List.getD_cons_succ, Nat.succ_eq_add_one]
    rw [Bool.and_assoc]
    congr 2
    simp
theorem flat_items {A : Around} {s : Shared} {xs ys : List V} {its its2 : List Value} (r : Vals xs its) (r2 : Vals ys its2) (fx : xs.all flatV = true) (fy : ys.all flatV = true) (j : Nat) (h1 : j < its.toArray.size) (h2 : j < its2.toArray.size) :
    SeqAt.EqAt A s its.toArray[j] its2.toArray[j] (eqV (xs.getD j .non) (ys.getD j .non)) := by
  have l1 := r.length
  have l2 := r2.length
  have k1 : j < its.length := by simpa using h1
  have k2 : j < its2.length := by simpa using h2
  have g1 : xs[j]? = some (xs[j]'(by omega)) := List.getElem?_eq_getElem (by omega)
  have g2 : ys[j]? = some (ys[j]'(by omega)) := List.getElem?_eq_getElem (by omega)
  obtain ⟨u1, e1, q1⟩ := r.get g1
  obtain ⟨u2, e2, q2⟩ := r2.get g2
  have f1 : its.toArray[j] = u1 := by
    have := (List.getElem?_eq_some_iff.mp e1).2
    simpa using this
  have f2 : its2.toArray[j] = u2 := by
    have := (List.getElem?_eq_some_iff.mp e2).2
    simpa using this
  rw [f1, f2]
  have d1 : xs.getD j .non = xs[j]'(by omega) := by rw [List.getD_eq_getElem?_getD, g1]; rfl
  have d2 : ys.getD j .non = ys[j]'(by omega) := by rw [List.getD_eq_getElem?_getD, g2]; rfl
  rw [d1, d2]
  exact eqAt_V q1 q2 (List.all_eq_true.mp fx _ (List.getElem_mem _)) (List.all_eq_true.mp fy _ (List.getElem_mem _))
def rTT (K : PySem.W.Frag) (neg : Bool) : R2 := fun x y H Q => ∃ a b xs ys, x = .ref a ∧ y = .ref b ∧ SqT K H a xs ∧ SqT K H b ys ∧ xs.all flatV = true ∧ ys.all flatV = true ∧ Q (.bl (if neg then !eqL xs ys else eqL xs ys)) H
theorem op_eqTT {X : Cx} (hu : X.A.units < cLine) : OpR X (compareOp .Eq) (rTT X.K false) := by
  intro pins s σ H x y v u Q I rx ry h
  obtain ⟨a, b, xs, ys, rfl, rfl, ha, hb, fx, fy, q⟩ := h
  cases rx
  cases ry
  obtain ⟨its, r, pl, hz⟩ := I.tuple ha
  obtain ⟨its2, r2, pl2, hz2⟩ := I.tuple hb
  have l1 := r.length
  have l2 := r2.length
  refine SeqAt.RcAt.tuples (e := fun j => eqV (xs.getD j .non) (ys.getD j .non)) pl pl2 hu (fun j h1 h2 => flat_items r r2 fx fy j h1 h2) X.prog X.w X.xe _ ?_
  have e : ((List.range (min its.toArray.size its2.toArray.size)).all (fun j => eqV (xs.getD j .non) (ys.getD j .non)) && its.toArray.size == its2.toArray.size) = eqL xs ys := by
    rw [← eqL_range]
    simp only [List.size_toArray, ← l1, ← l2]
  rw [e]
  exact ⟨.bl _, H, I, rfl, q⟩
end L2
namespace L2
open PySem PySem.Spec PyProof.Rows
end L2
namespace L2
open PySem PySem.Spec PyProof.Rows
def kS : Value → Str
  | .str z _ => z
  | _ => ""
def TxSet (P : Program) (w : World) (h : Heap) (a : Addr) (led : Bool) (ds : List Str) : Prop := ∃ (o : Obj) (es : Array (Int × Value)) (ep : Nat) (t : SetTable), h.get? a = some o ∧ o.ExactSet ∧ o.data = .set es ep t ∧ ElemsOf (strKind P w) es.toList ∧ (∀ e ∈ es.toList, ∃ z k, e.2 = .str z k) ∧ (es.toList.map fun e => kS e.2).Perm ds ∧ t.fits es.size = true ∧ t.led = led ∧ (0 < es.size → t.plain = false)
theorem TxSet.size {es : Array (Int × Value)} {ds : List Str} (h : (es.toList.map fun e => kS e.2).Perm ds) : es.size = ds.length := by
  rw [← h.length_eq, List.length_map, Array.length_toList]
theorem TxSet.at {P : Program} {w : World} {h h' : Heap} {a : Addr} {led : Bool} {ds : List Str} (T : TxSet P w h a led ds) (k : ∀ o, h.get? a = some o → h'.get? a = some o) : TxSet P w h' a led ds := by
  obtain ⟨o, es, ep, t, ho, r⟩ := T
  exact ⟨o, es, ep, t, k _ ho, r⟩
section
variable {P : Program} {w : World} {A : Around} {E : Value → Shared → Prop} {s : Shared}
end
end L2
namespace ST
open PySem PySem.Spec PyProof.Rows
theorem relaid_ok (t : SetTable) {es : Array (Int × Value)} {wanted : Nat} (k : cycOk (SetTable.sizeAbove wanted) = true) (pos : 0 < SetTable.sizeAbove wanted) (room : es.size ≤ SetTable.sizeAbove wanted - 1) :
    ∃ t' order, t.relaid (es.map (·.1)) wanted = some (t', order) ∧ t'.led = t.led ∧ t'.plain = t.plain ∧ t'.mask = SetTable.sizeAbove wanted - 1 ∧ (order.filterMap (es[·]?)).toList.Perm es.toList ∧ TOk t' ((order.filterMap (es[·]?)).toList.map (·.1)) := by
  have km : cycOk (SetTable.sizeAbove wanted - 1 + 1) = true := by rw [Nat.sub_add_cancel pos]; exact k
  obtain ⟨ow, e, L⟩ := lay_ok km (hs := es.map (·.1)) (by rw [Array.size_map]; omega)
  unfold SetTable.relaid SetTable.laid
  rw [e]
  refine ⟨_, _, rfl, rfl, rfl, rfl, ?_⟩
  show ((((lv (SetTable.sizeAbove wanted - 1) ow).map (·.2)).toArray).filterMap (es[·]?)).toList.Perm es.toList ∧ TOk { mask := SetTable.sizeAbove wanted - 1, place := ((lv (SetTable.sizeAbove wanted - 1) ow).map (·.1)).toArray, dummies := #[], finger := t.finger, led := t.led, moves := _, plain := t.plain } (((((lv (SetTable.sizeAbove wanted - 1) ow).map (·.2)).toArray).filterMap (es[·]?)).toList.map (·.1))
  generalize SetTable.sizeAbove wanted - 1 = m at *
  have lh : (es.map (·.1)).toList.length = es.size := by simp
  have P := L.perm
  rw [lh] at P
  have ef : ((((lv m ow).map (·.2)).toArray).filterMap (es[·]?)).toList = ((lv m ow).map (·.2)).filterMap (es[·]?) := by simp
  have hp : (((lv m ow).map (·.2)).filterMap (es[·]?)).Perm es.toList := by
    have := P.filterMap (es[·]?)
    rw [filterMap_getElem?_range] at this
    exact this
  rw [ef]
  refine ⟨hp, km, rfl, by simpa using tk_rise m ow, ?_, ?_, fun q hq => ?_⟩
  · rw [List.length_map, hp.length_eq]
    have := P.length_eq
    simp at this ⊢
    exact this
  · have := P.length_eq
    simp at this ⊢
    omega
  · have em : ((lv m ow).map (·.2)).filterMap (es[·]?) = (lv m ow).map fun p => es.getD p.2 (0, .none) := by
      have key : ∀ l : List (Nat × Nat), (∀ p ∈ l, p.2 < es.size) → (l.map (·.2)).filterMap (es[·]?) = l.map fun p => es.getD p.2 (0, .none) := by
        intro l
        induction l with
        | nil => exact fun _ => rfl
        | cons p r ih =>
          intro h
          have hp := h p List.mem_cons_self
          rw [List.map_cons, List.filterMap_cons, Array.getElem?_eq_getElem hp]
          dsimp only
          rw [ih fun q hq => h q (List.mem_cons_of_mem _ hq), List.map_cons]
          simp [Array.getD, hp]
      refine key _ fun p hp => ?_
      have := P.mem_iff.mp (List.mem_map_of_mem (f := (·.2)) hp)
      exact List.mem_range.mp this
    rw [em, List.map_map] at hq
    have hq' : q ∈ (tk m ow).zip ((lv m ow).map ((·.1) ∘ fun p => es.getD p.2 (0, .none))) := by simpa using hq
    rw [List.zip_map', List.mem_map] at hq'
    obtain ⟨p, hp', rfl⟩ := hq'
    obtain ⟨_, ep⟩ := mem_lv.mp hp'
    obtain ⟨h, eh, pa⟩ := L.path _ _ ep
    have lt : p.2 < es.size := List.mem_range.mp (P.mem_iff.mp (List.mem_map_of_mem (f := (·.2)) hp'))
    have : h = (es.getD p.2 (0, .none)).1 := by
      simp [lt] at eh
      simp [Array.getD, lt, eh]
    show Path m (((lv m ow).map (·.1)).toArray).toList (es.getD p.2 (0, .none)).1 p.1
    rw [← this]
    simpa using pa
theorem probe_go {t : SetTable} {hs : List Int} (T : TOk t hs) {hashAt : Nat → Int} (ha : ∀ i h, hs[i]? = some h → hashAt i = h) (h : Int) {N : Nat} (fr : J t.mask h N ∉ t.place.toList) (tkn : ∀ l, l < N → J t.mask h l ∈ t.place.toList) :
    ∀ (fuel n : Nat), n ≤ N → N < n + fuel → SetTable.probe.go t hashAt h fuel (nth t.mask h n) = some (.empty (J t.mask h N) none) ∧ (∀ l, n ≤ l → l < N → ∀ (i : Nat), t.place[i]? = some (J t.mask h l) → hs[i]? ≠ some h)
      ∨ ∃ (l i : Nat), n ≤ l ∧ l < N ∧ t.place[i]? = some (J t.mask h l) ∧ hs[i]? = some h ∧ (∀ l', n ≤ l' → l' < l → ∀ (i : Nat), t.place[i]? = some (J t.mask h l') → hs[i]? ≠ some h) ∧ SetTable.probe.go t hashAt h fuel (nth t.mask h n) = some (.candidate (J t.mask h l) i (nth t.mask h (l + 1)))
  | 0, n, h1, h2 => absurd h2 (by omega)
  | fuel + 1, n, h1, h2 => by
    unfold SetTable.probe.go
    by_cases c : n = N
    · subst c
      refine .inl ⟨?_, fun l a b => absurd b (by omega)⟩
      rw [slot_empty T.dum fr]
      dsimp only
      rw [nth_dummy]
    · have mem := tkn n (by omega)
      obtain ⟨i, e⟩ := List.getElem?_of_mem mem
      rw [Array.getElem?_toList] at e
      rw [slot_live T.rise e]
      dsimp only
      have li : i < hs.length := by rw [← T.len]; exact (Array.getElem?_eq_some_iff.mp e).1
      have eh : hs[i]? = some hs[i] := List.getElem?_eq_getElem li
      have uni : ∀ i', t.place[i']? = some (J t.mask h n) → i' = i := fun i' e' => by rw [← below_at T.rise e', below_at T.rise e]
      rw [ha _ _ eh]
      by_cases d : hs[i] = h
      · rw [if_pos (by rw [d]; exact beq_self_eq_true _)]
        exact .inr ⟨n, i, Nat.le_refl _, by omega, e, by rw [eh, d], fun l' a b => absurd b (by omega), rfl⟩
      · rw [if_neg (by rw [beq_iff_eq]; exact d)]
        have ih := probe_go T ha h fr tkn fuel (n + 1) (by omega) (by omega)
        have new : ∀ i', t.place[i']? = some (J t.mask h n) → hs[i']? ≠ some h := fun i' e' z => by
          rw [uni i' e', eh] at z
          cases z
          exact d rfl
        rcases ih with ⟨a, b⟩ | ⟨l, i', a, b, c1, c2, c3, c4⟩
        · refine .inl ⟨a, fun l h3 h4 => ?_⟩
          by_cases q : l = n
          · subst q; exact new
          · exact b l (by omega) h4
        · refine .inr ⟨l, i', by omega, b, c1, c2, fun l' h3 h4 => ?_, c4⟩
          by_cases q : l' = n
          · subst q; exact new
          · exact c3 l' (by omega) h4
section
variable {P : Program} {w : World} {A : Around} {E : Value → Shared → Prop} {s : Shared}
theorem search_ok {a x : Addr} {o : Obj} {es : Array (Int × Value)} {ep : Nat} {t : SetTable} {h : Int} {same : Value → Bool} (ho : s.heap.get? a = some o) (hd : o.data = .set es ep t) (T : TOk t (es.toList.map (·.1))) (odd : t.mask % 2 = 1)
    (refs : ∀ e ∈ es.toList, ∃ b, e.2 = .ref b) (eq : ∀ e ∈ es.toList, ∀ Q : Bool → Shared → Prop, Q (same e.2) s → wpAny (model P w) A (eqBool e.2 (.ref x)) Q E s) (only : ∀ e ∈ es.toList, same e.2 = true → e.1 = h)
    (seen : ∀ Q : Bool → Shared → Prop, Q false s → wpAny (model P w) A (searchCouldBeSeen (.ref x) ((es.filter (·.1 == h)).toList.map (·.2))) Q E s)
    {N : Nat} (fr : J t.mask h N ∉ t.place.toList) (tkn : ∀ l, l < N → J t.mask h l ∈ t.place.toList) (hN : N ≤ 10 * (t.mask + 13)) {Q : SetFound → Shared → Prop}
    (q1 : (∃ e ∈ es.toList, same e.2 = true) → Q (.there none) s) (q2 : (∀ e ∈ es.toList, same e.2 = false) → Q (.free (J t.mask h N) false) s) :
    ∀ (fuel n : Nat) (st : Option Pb), n ≤ N → N < n + fuel → (Option.getD st (t.probeStart h)) = nth t.mask h n →
      ((∃ (i0 n0 : Nat) (e : Int × Value), es[i0]? = some e ∧ same e.2 = true ∧ t.place[i0]? = some (J t.mask h n0) ∧ n ≤ n0 ∧ n0 < N) ∨ ∀ e ∈ es.toList, same e.2 = false) → wpAny (model P w) A (setSearchFrom a (.ref x) h true fuel st) Q E s := by
  have hf : t.fits es.size = true := by have := T.fits; simpa using this
  intro fuel
  induction fuel with
  | zero => intro n st h1 h2; exact absurd h2 (by omega)
  | succ fuel ih =>
    intro n st h1 h2 hst inv
    unfold setSearchFrom
    refine wpAny_bind (wpAny_setState_of ho hd hf ?_)
    dsimp only
    have gw : t.gaveWay = false := by unfold SetTable.gaveWay; rw [odd]; rfl
    rw [gw]
    simp only [Bool.false_eq_true, ↓reduceIte]
    rw [hst]
    have pg := probe_go T (hashAt := fun i => (es[i]?.map (·.1)).getD 0) (fun i h' e => by simp at e; obtain ⟨y, e⟩ := e; rw [e]; rfl) h fr tkn (10 * SetTable.turns t.mask) n h1 (by unfold SetTable.turns; omega)
    rcases pg with ⟨e1, e2⟩ | ⟨l, i, l1, l2, pi, hi, nb, e1⟩
    · have e1' : t.probe (fun i => (es[i]?.map (·.1)).getD 0) h (nth t.mask h n) = some (.empty (J t.mask h N) none) := e1
      first
        | erw [e1']
        | skip
      dsimp only
      refine wpAny_pure (q2 ?_)
      rcases inv with ⟨i0, n0, e, g1, g2, g3, g4, g5⟩ | z
      · exfalso
        have mem : e ∈ es.toList := by rw [Array.mem_toList_iff]; exact Array.mem_of_getElem? g1
        have he := only e mem g2
        have hh : (es.toList.map (·.1))[i0]? = some h := by simp [g1, he]
        exact e2 n0 g4 g5 i0 g3 hh
      · exact z
    · have e1' : t.probe (fun i => (es[i]?.map (·.1)).getD 0) h (nth t.mask h n) = some (.candidate (J t.mask h l) i (nth t.mask h (l + 1))) := e1
      erw [e1']
      dsimp only
      have ey : ∃ y, es[i]? = some (h, y) := by
        simp at hi
        obtain ⟨y, e⟩ := hi
        exact ⟨y, e⟩
      obtain ⟨y, ey⟩ := ey
      have my : (h, y) ∈ es.toList := by rw [Array.mem_toList_iff]; exact Array.mem_of_getElem? ey
      obtain ⟨b, rfl⟩ : ∃ b, y = .ref b := refs _ my
      have rest : wpAny (model P w) A (do
          let some (_, y) := es[i]? | unsupported "internal:set-entry"
          let equal ← holding [y] (eqBool y (.ref x))
          let (es', _, t') ← setState a
          if true && equal then return .there none
          let some same := t'.sameMemory t.moves t.mask | unsupported "set.changed-during-lookup:is-the-new-block-at-the-old-address"
          let still ← match (if same then t'.slot (J t.mask h l) else .empty) with
            | .live i' => match es'[i']? with
              | some (_, y') => do pure (if ← isSame y' y then some i' else none)
              | none => pure none
            | _ => pure none
          match still with
          | none => rule "set.search.anew"; setSearchFrom a (.ref x) h true fuel none
          | some i' => if equal then return .there (some i') else setSearchFrom a (.ref x) h true fuel (some (nth t.mask h (l + 1)))) Q E s := by
        rw [ey]
        dsimp only
        refine wpAny_bind (wpAny_holding (eq _ my _ ?_))
        refine wpAny_bind (wpAny_setState_of ho hd hf ?_)
        dsimp only
        cases sm : same (Value.ref b) with
        | true =>
          simp only [Bool.and_self, ↓reduceIte]
          exact wpAny_pure (q1 ⟨_, my, sm⟩)
        | false =>
          simp only [Bool.and_false, Bool.false_eq_true, ↓reduceIte]
          have e4 : t.sameMemory t.moves t.mask = some true := by unfold SetTable.sameMemory; rw [if_pos (beq_self_eq_true _)]
          rw [e4]
          dsimp only
          simp only [↓reduceIte]
          rw [slot_live T.rise pi]
          dsimp only
          rw [ey]
          dsimp only
          have e5 : isSame (.ref b) (.ref b) = pure true := by unfold isSame; dsimp only; rw [if_pos (beq_self_eq_true b)]
          refine wpAny_bind ?_
          rw [e5]
          refine wpAny_pure ?_
          simp only [↓reduceIte]
          refine wpAny_bind (wpAny_pure ?_)
          dsimp only
          refine ih (l + 1) _ (by omega) (by omega) rfl ?_
          rcases inv with ⟨i0, n0, e, g1, g2, g3, g4, g5⟩ | z
          · refine .inl ⟨i0, n0, e, g1, g2, g3, ?_, g5⟩
            apply Nat.lt_of_not_le
            intro z
            have mem : e ∈ es.toList := by rw [Array.mem_toList_iff]; exact Array.mem_of_getElem? g1
            have he := only e mem g2
            have hh : (es.toList.map (·.1))[i0]? = some h := by simp [g1, he]
            by_cases c : n0 = l
            · subst c
              have : i0 = i := by rw [← below_at T.rise g3, below_at T.rise pi]
              subst this
              rw [ey] at g1
              cases g1
              rw [sm] at g2
              cases g2
            · exact nb n0 g4 (by omega) i0 g3 hh
          · exact .inr z
      by_cases hl : t.led = true
      · rw [hl]
        simp only [Bool.not_true, Bool.false_eq_true, ↓reduceIte]
        exact rest
      · rw [show t.led = false by simpa using hl]
        simp only [Bool.not_false, ↓reduceIte]
        refine wpAny_bind (seen _ ?_)
        simp only [Bool.false_eq_true, ↓reduceIte]
        exact rest
end
end ST
namespace ST
open PySem PySem.Spec PyProof.Rows L2
def Keep (h h' : Heap) : Prop := ∀ b o, h.get? b = some o → h'.get? b = some o
structure EKind (P : Program) (w : World) (K : Type) [DecidableEq K] where
  is : Heap → K → Addr → Prop
  hash : K → Int
  draws : K → Nat
  room : Around → Prop
  inj : ∀ {h : Heap} {a : Addr} {x y : K}, is h x a → is h y a → x = y
  keeps : ∀ {h h' : Heap} {k : K} {a : Addr}, is h k a → Keep h h' → is h' k a
  pyHash : ∀ {A : Around} {E : Value → Shared → Prop} {s : Shared} {k : K} {a : Addr} {Q : Int → Shared → Prop}, room A → is s.heap k a → Q (hash k) { s with toks := s.toks + draws k } → wpAny (model P w) A (PySem.pyHash (.ref a)) Q E s
  eqBool : ∀ {A : Around} {E : Value → Shared → Prop} {s : Shared} {x y : K} {a b : Addr} {Q : Bool → Shared → Prop}, room A → is s.heap x a → is s.heap y b → Q (decide (x = y)) s → wpAny (model P w) A (PySem.eqBool (.ref a) (.ref b)) Q E s
  quiet : ∀ {A : Around} {E : Value → Shared → Prop} {s : Shared} {k : K} {a : Addr} {Q : Bool → Shared → Prop}, is s.heap k a → Q true s → wpAny (model P w) A (eqIsQuiet 8 (.ref a)) Q E s
  noCls : ∀ {A : Around} {E : Value → Shared → Prop} {s : Shared} {k : K} {a : Addr} {Q : Bool → Shared → Prop}, is s.heap k a → Q false s → wpAny (model P w) A (ofAClassStatement 8 (.ref a)) Q E s
  byVal : ∀ {A : Around} {E : Value → Shared → Prop} {s : Shared} {k : K} {a : Addr} {Q : Bool → Shared → Prop}, is s.heap k a → Q false s → wpAny (model P w) A (hashByValue 8 (.ref a)) Q E s
theorem paired_perm {α β : Type} {R : α → β → Prop} {l l' : List α} (p : l'.Perm l) : ∀ {m : List β}, Paired R l m → ∃ m', Paired R l' m' ∧ m'.Perm m := by
  induction p with
  | nil => intro m h; exact ⟨m, h, .refl _⟩
  | cons x p ih =>
    intro m h
    cases h with
    | cons a b =>
      obtain ⟨m', h1, h2⟩ := ih b
      exact ⟨_ :: m', .cons a h1, h2.cons _⟩
  | swap x y l =>
    intro m h
    cases h with
    | cons a b =>
      cases b with
      | cons c d => exact ⟨_, .cons c (.cons a d), .swap _ _ _⟩
  | trans p q ih1 ih2 =>
    intro m h
    obtain ⟨m1, h1, h2⟩ := ih2 h
    obtain ⟨m2, h3, h4⟩ := ih1 h1
    exact ⟨m2, h3, h4.trans h2⟩
theorem paired_imp {α β : Type} {R R' : α → β → Prop} (f : ∀ a b, R a b → R' a b) : ∀ {l : List α} {m : List β}, Paired R l m → Paired R' l m
  | _, _, .nil => .nil
  | _, _, .cons a b => .cons (f _ _ a) (paired_imp f b)
theorem paired_mem {α β : Type} {R : α → β → Prop} : ∀ {l : List α} {m : List β}, Paired R l m → ∀ a ∈ l, ∃ b ∈ m, R a b
  | _, _, .nil, a, h => by cases h
  | _, _, .cons x y, a, h => by
    rcases List.mem_cons.mp h with e | e
    · subst e; exact ⟨_, List.mem_cons_self, x⟩
    · obtain ⟨b, h1, h2⟩ := paired_mem y a e
      exact ⟨b, List.mem_cons_of_mem _ h1, h2⟩
theorem paired_mem' {α β : Type} {R : α → β → Prop} : ∀ {l : List α} {m : List β}, Paired R l m → ∀ b ∈ m, ∃ a ∈ l, R a b
  | _, _, .nil, a, h => by cases h
  | _, _, .cons x y, a, h => by
    rcases List.mem_cons.mp h with e | e
    · subst e; exact ⟨_, List.mem_cons_self, x⟩
    · obtain ⟨b, h1, h2⟩ := paired_mem' y a e
      exact ⟨b, List.mem_cons_of_mem _ h1, h2⟩
theorem paired_snoc {α β : Type} {R : α → β → Prop} {a : α} {b : β} (r : R a b) : ∀ {l : List α} {m : List β}, Paired R l m → Paired R (l ++ [a]) (m ++ [b])
  | _, _, .nil => .cons r .nil
  | _, _, .cons x y => .cons x (paired_snoc r y)
section
variable {P : Program} {w : World} {K : Type} [DecidableEq K] (kd : EKind P w K)
def El (h : Heap) (e : Int × Value) (k : K) : Prop := ∃ b, e = (kd.hash k, .ref b) ∧ kd.is h k b
def SzOk (m n : Nat) : Prop := m = 7 ∧ n ≤ 4 ∨ m = 31 ∧ n ≤ 18 ∨ m = 127 ∧ n ≤ 76
def KSet (h0 h : Heap) (a : Addr) (led : Bool) (ks : List K) : Prop := ∃ (o : Obj) (es : Array (Int × Value)) (ep : Nat) (t : SetTable), h.get? a = some o ∧ o.ExactSet ∧ o.data = .set es ep t ∧ (∃ kes, Paired (El kd h0) es.toList kes ∧ kes.Perm ks) ∧ ks.Nodup ∧ TOk t (es.toList.map (·.1)) ∧ SzOk t.mask es.size ∧ t.led = led ∧ (0 < es.size → t.plain = false)
variable {kd}
theorem KSet.at {h0 h h' : Heap} {a : Addr} {led : Bool} {ks : List K} (T : KSet kd h0 h a led ks) (k : ∀ o, h.get? a = some o → h'.get? a = some o) : KSet kd h0 h' a led ks := by
  obtain ⟨o, es, ep, t, ho, r⟩ := T
  exact ⟨o, es, ep, t, k _ ho, r⟩
variable {A : Around} {E : Value → Shared → Prop} {s : Shared}
theorem kset_store {h0 h : Heap} {a : Addr} {o : Obj} {es es' : Array (Int × Value)} {ep : Nat} {t t' : SetTable} {led : Bool} {ks kes : List K} (ho : h.get? a = some o) (hx : o.ExactSet) (hd : o.data = .set es ep t)
    (hel : Paired (El kd h0) es'.toList kes) (hp : kes.Perm ks) (nd : ks.Nodup) (T : TOk t' (es'.toList.map (·.1))) (hl : t'.led = led) (hpl : t'.plain = false) :
    (h.update a (Obj.putSet es' t')).get? a = some { o with data := .set es' (ep + 1) t' } ∧ (SzOk t'.mask es'.size → KSet kd h0 (h.update a (Obj.putSet es' t')) a led ks) := by
  have g : (h.update a (Obj.putSet es' t')).get? a = some { o with data := .set es' (ep + 1) t' } := by
    have q := Heap.get?_update_self (Obj.putSet es' t') ho (by rw [putSet_of es' t' hd]; rfl)
    rw [putSet_of es' t' hd] at q
    exact q
  exact ⟨g, fun sz => ⟨_, es', ep + 1, t', g, hx, rfl, ⟨kes, hel, hp⟩, nd, T, sz, hl, fun _ => hpl⟩⟩
theorem TOk.plainOff {t : SetTable} {hs : List Int} (T : TOk t hs) : TOk { t with plain := false } hs := ⟨T.cyc, T.dum, T.rise, T.len, T.fill, T.path⟩
theorem seen_no {h0 : Heap} (kp : Keep h0 s.heap) {k : K} {x : Addr} {es : Array (Int × Value)} {kes : List K} (hk : kd.is s.heap k x) (h : Paired (El kd h0) es.toList kes) (hs : Int) {Q : Bool → Shared → Prop} (q : Q false s) :
    wpAny (model P w) A (searchCouldBeSeen (.ref x) ((es.filter (·.1 == hs)).toList.map (·.2))) Q E s := by
  unfold searchCouldBeSeen
  refine wpAny_bind ?_
  refine wpAny_forIn_list _ (fun rest r s' => r.1 = none ∧ s' = s ∧ ∀ v ∈ rest, ∃ b k', v = Value.ref b ∧ kd.is s.heap k' b) _ ?_ ?_ _ _ ⟨rfl, rfl, fun v hv => ?_⟩
  · rintro v rest r s' ⟨hr, rfl, hall⟩
    obtain ⟨b, k', rfl, hb⟩ := hall v List.mem_cons_self
    have go : ∀ u ∈ rest, ∃ b k', u = Value.ref b ∧ kd.is s'.heap k' b := fun u hu => hall u (List.mem_cons_of_mem _ hu)
    dsimp only
    by_cases c : (x == b) = true
    · rw [c]
      simp only [Bool.true_or, ↓reduceIte]
      exact wpAny_pure ⟨rfl, rfl, go⟩
    · rw [show (x == b) = false by simpa using c]
      simp only [Bool.false_or, show carriedByValue (.ref x) = false from rfl, Bool.false_and, Bool.false_eq_true, ↓reduceIte]
      refine wpAny_bind (kd.quiet hk ?_)
      simp only [Bool.not_true, Bool.false_eq_true, ↓reduceIte]
      refine wpAny_bind (kd.quiet hb ?_)
      simp only [Bool.not_true, Bool.false_eq_true, ↓reduceIte]
      refine wpAny_bind (kd.noCls hk ?_)
      simp only [Bool.false_eq_true, ↓reduceIte]
      refine wpAny_bind (kd.noCls hb ?_)
      simp only [Bool.false_eq_true, ↓reduceIte]
      exact wpAny_pure ⟨rfl, rfl, go⟩
  · rintro ⟨r1, r2⟩ s' ⟨hr, rfl, _⟩
    simp only at hr
    subst hr
    exact wpAny_pure q
  · obtain ⟨e, he, rfl⟩ := List.mem_map.mp hv
    have me : e ∈ es.toList := by simp at he; simpa using he.1
    obtain ⟨k', _, b, rfl, h2⟩ := paired_mem h e me
    exact ⟨b, k', rfl, kd.keeps h2 kp⟩
end
end ST
namespace ST
open PySem PySem.Spec PyProof.Rows L2
section
variable {P : Program} {w : World} {K : Type} [DecidableEq K] {kd : EKind P w K} {A : Around} {E : Value → Shared → Prop} {s : Shared}
theorem sa20 : SetTable.sizeAbove (SetTable.grown 5) = 32 := by decide +kernel
theorem sa76 : SetTable.sizeAbove (SetTable.grown 19) = 128 := by decide +kernel
theorem SzOk.odd {m n : Nat} (h : SzOk m n) : m % 2 = 1 := by unfold SzOk at h; omega
theorem relay_ok {h0 : Heap} {a : Addr} {o : Obj} {es : Array (Int × Value)} {ep : Nat} {t : SetTable} {led : Bool} {ks kes : List K} {m : Nat} (ho : s.heap.get? a = some o) (hx : o.ExactSet) (hd : o.data = .set es ep t)
    (hel : Paired (El kd h0) es.toList kes) (hp : kes.Perm ks) (nd : ks.Nodup) (T : TOk t (es.toList.map (·.1))) (hl : t.led = led) (hpl : t.plain = false) {wanted : Nat} (ew : SetTable.sizeAbove wanted = m + 1) (ck : cycOk (m + 1) = true) (sz : SzOk m es.size)
    {Q : Unit → Shared → Prop} (q : ∀ h', Heap.SameBut a s.heap h' → KSet kd h0 h' a led ks → Q () { s with heap := h' }) : wpAny (model P w) A (setRelay a wanted) Q E s := by
  have hf : t.fits es.size = true := by have := T.fits; simpa using this
  have le : es.size ≤ m := by unfold SzOk at sz; omega
  have ml : m ≤ 127 := by unfold SzOk at sz; omega
  obtain ⟨t', order, e, h1, h2, h3, h4, h5⟩ := relaid_ok t (es := es) (wanted := wanted) (by rw [ew]; exact ck) (by omega) (by omega)
  unfold setRelay
  refine wpAny_bind (wpAny_setState_of ho hd hf ?_)
  dsimp only
  rw [if_neg (by rw [ew, sizeLine_eq]; omega)]
  rw [e]
  have es' : (order.filterMap (es[·]?)).size = es.size := by rw [← Array.length_toList, h4.length_eq, Array.length_toList]
  obtain ⟨kes', p1, p2⟩ := paired_perm h4 hel
  refine wpAny_bind ?_
  show wpAny _ _ (do
    if ((order.filterMap (es[·]?)).size != es.size) then unsupported "internal:set-table-lost-an-element"
    pure (order.filterMap (es[·]?), t')) _ _ _
  generalize order.filterMap (es[·]?) = es2 at *
  have fin : wpAny (model P w) A (storeSet a es2 t') Q E s := by
    obtain ⟨g, kk⟩ := kset_store (kd := kd) (led := led) ho hx hd p1 (p2.trans hp) nd h5 (h1.trans hl) (h2.trans hpl)
    refine wpAny_storeSet_of ho hd (q _ (Heap.SameBut.update _ a _) (kk ?_)) (by rw [es', sizeLine_eq]; omega)
    rw [h3, ew, es']
    exact sz
  rw [if_neg (by rw [es']; simp)]
  first | exact wpAny_pure fin | exact wpAny_bind (wpAny_pure (wpAny_pure fin))
theorem add_key {h0 : Heap} {a x : Addr} {led : Bool} {ks : List K} {k : K} {Q : Bool → Shared → Prop} (R : kd.room A) (kp : Keep h0 s.heap) (T : KSet kd h0 s.heap a led ks) (hk0 : kd.is h0 k x) (hb : ks.length < 76)
    (q : ∀ (b : Bool) (h' : Heap), Heap.SameBut a s.heap h' → KSet kd h0 h' a led (if k ∈ ks then ks else ks ++ [k]) → Q b { s with heap := h' }) : wpAny (model P w) A (setAddHashed a (.ref x) (kd.hash k)) Q E s := by
  have T0 := T
  have hk := kd.keeps hk0 kp
  obtain ⟨o, es, ep, t, ho, hx, hd, ⟨kes, hel, hp⟩, nd, TO, sz, hl, hpl⟩ := T
  have hf : t.fits es.size = true := by have := TO.fits; simpa using this
  have esz : es.size = ks.length := by rw [← hp.length_eq, ← Paired.length hel, Array.length_toList]
  unfold setAddHashed setAddHashedIn
  refine wpAny_holding (wpAny_bind (wpAny_setState_of ho hd hf ?_))
  dsimp only
  rw [show byScan (.ref x) es = false from rfl]
  simp only [Bool.false_eq_true, ↓reduceIte]
  have lp : t.place.toList.length ≤ t.mask := by rw [Array.length_toList]; exact TO.fill
  obtain ⟨N, ⟨r, hr, hN⟩, fr, tkn⟩ := first_free TO.cyc (kd.hash k) lp
  have hN' : N ≤ 10 * (t.mask + 13) := by have := ix_le t.mask (kd.hash k) r; omega
  have ml : t.mask ≤ 127 := by unfold SzOk at sz; omega
  let same : Value → Bool := fun v => @decide (∃ b, v = .ref b ∧ kd.is h0 k b) (Classical.propDecidable _)
  have sm : ∀ e k', El kd h0 e k' → (same e.2 = true ↔ k' = k) := fun e k' ⟨b, h1, h2⟩ => by
    subst h1
    show @decide _ (Classical.propDecidable _) = true ↔ _
    rw [@decide_eq_true_iff _ (Classical.propDecidable _)]
    constructor
    · rintro ⟨c, h3, h4⟩
      cases h3
      exact kd.inj h2 h4
    · rintro rfl
      exact ⟨b, rfl, h2⟩
  have ex : (∃ e ∈ es.toList, same e.2 = true) → k ∈ ks := fun ⟨e, he, h1⟩ => by
    obtain ⟨k', h2, h3⟩ := paired_mem hel e he
    rw [← (sm e k' h3).mp h1]
    exact hp.mem_iff.mp h2
  have ex' : (∀ e ∈ es.toList, same e.2 = false) → k ∉ ks := fun h1 h2 => by
    obtain ⟨e, he, h3⟩ := paired_mem' hel k (hp.mem_iff.mpr h2)
    have := h1 e he
    rw [(sm e k h3).mpr rfl] at this
    cases this
  refine wpAny_bind ?_
  show wpAny _ _ (setSearchFrom a (.ref x) (kd.hash k) true 100000 none) _ _ _
  refine search_ok (same := same) ho hd TO sz.odd (fun e he => ?_) (fun e he Q' q' => ?_) (fun e he h1 => ?_) (fun Q' q' => seen_no kp hk hel _ q') fr tkn hN' (fun h1 => ?_) (fun h1 => ?_) 100000 0 none (Nat.zero_le _) (by omega) rfl ?_
  · obtain ⟨k', _, b, h1, _⟩ := paired_mem hel e he
    exact ⟨b, by rw [h1]⟩
  · obtain ⟨k', _, h3⟩ := paired_mem hel e he
    have e1 : same e.2 = decide (k' = k) := by
      rw [Bool.eq_iff_iff, sm e k' h3, decide_eq_true_iff]
    obtain ⟨b, h4, h5⟩ := h3
    rw [e1] at q'
    rw [show e.2 = .ref b by rw [h4]]
    exact kd.eqBool R (kd.keeps h5 kp) hk q'
  · obtain ⟨k', _, h3⟩ := paired_mem hel e he
    have := (sm e k' h3).mp h1
    subst this
    obtain ⟨b, h4, h5⟩ := h3
    rw [h4]
  · dsimp only
    refine wpAny_pure ?_
    have := q false s.heap (Heap.SameBut.refl a s.heap) (by rw [if_pos (ex h1)]; exact T0)
    exact this
  · dsimp only
    rw [if_neg (ex' h1)] at q
    refine wpAny_bind (wpAny_setState_of ho hd hf ?_)
    dsimp only
    have pa : Path t.mask t.place.toList (kd.hash k) (J t.mask (kd.hash k) N) := ⟨N, hN', rfl, tkn⟩
    have lt : t.place.size < t.mask := by
      have := TO.len
      simp at this
      unfold SzOk at sz
      omega
    have T1 := put_ok TO fr pa lt
    have e2 : (t.put (J t.mask (kd.hash k) N)).1.led = t.led := rfl
    have e3 : (t.put (J t.mask (kd.hash k) N)).1.plain = t.plain := rfl
    have e4 : (t.put (J t.mask (kd.hash k) N)).1.mask = t.mask := rfl
    generalize t.put (J t.mask (kd.hash k) N) = pt at T1 e2 e3 e4 ⊢
    obtain ⟨t1, p⟩ := pt
    dsimp only at T1 e2 e3 e4 ⊢
    have ei : (SetTable.insertAt es p (kd.hash k, Value.ref x)).toList = es.toList.take p ++ (kd.hash k, Value.ref x) :: es.toList.drop p := SetTable.toList_insertAt _ _ _
    have T2 : TOk t1 ((SetTable.insertAt es p (kd.hash k, Value.ref x)).toList.map (·.1)) := by
      rw [ei, List.map_append, List.map_cons, List.map_take, List.map_drop]
      exact T1
    have pm : (SetTable.insertAt es p (kd.hash k, Value.ref x)).toList.Perm (es.toList ++ [(kd.hash k, Value.ref x)]) := by
      have := SetTable.insertAt_perm es p (kd.hash k, Value.ref x)
      rwa [Array.toList_push] at this
    obtain ⟨kes1, p1, p2⟩ := paired_perm pm (paired_snoc (R := El kd h0) (a := (kd.hash k, Value.ref x)) (b := k) ⟨x, rfl, hk0⟩ hel)
    have p3 : kes1.Perm (ks ++ [k]) := p2.trans (hp.append_right _)
    have nd1 : (ks ++ [k]).Nodup := by
      rw [List.nodup_append]
      refine ⟨nd, by simp, fun a ha b hb => ?_⟩
      rw [List.mem_singleton] at hb
      subst hb
      rintro rfl
      exact ex' h1 ha
    have sz1 : (SetTable.insertAt es p (kd.hash k, Value.ref x)).size = es.size + 1 := by
      rw [← Array.length_toList, pm.length_eq]
      simp
    have tail : ∀ t2 : SetTable, TOk t2 ((SetTable.insertAt es p (kd.hash k, Value.ref x)).toList.map (·.1)) → t2.led = led → t2.plain = false → t2.mask = t.mask →
        wpAny (model P w) A (do
          storeSet a (SetTable.insertAt es p (kd.hash k, Value.ref x)) t2
          if !false && t2.tooFull then setRelay a (SetTable.grown (es.size + 1))
          return true) Q E s := by
      intro t2 T3 l2 pl2 m2
      generalize SetTable.insertAt es p (kd.hash k, Value.ref x) = es1 at *
      obtain ⟨g, kk⟩ := kset_store (kd := kd) (led := led) ho hx hd p1 p3 nd1 T3 l2 pl2
      refine wpAny_bind (wpAny_storeSet_of ho hd ?_ (by rw [sz1, sizeLine_eq]; omega))
      have tf : t2.tooFull = decide ((es.size + 1) * 5 ≥ t.mask * 3) := by
        unfold SetTable.tooFull SetTable.fill
        have := T3.len
        simp at this
        rw [this, T3.dum, m2, sz1]
        simp
      have sb := Heap.SameBut.update s.heap a (Obj.putSet es1 t2)
      by_cases c : (es.size + 1) * 5 ≥ t.mask * 3
      · rw [tf, decide_eq_true c]
        simp only [Bool.not_false, Bool.and_self, ↓reduceIte]
        have go : ∀ m, SetTable.sizeAbove (SetTable.grown (es.size + 1)) = m + 1 → cycOk (m + 1) = true → SzOk m es1.size → wpAny (model P w) A (do setRelay a (SetTable.grown (es.size + 1)); return true) Q E { s with heap := s.heap.update a (Obj.putSet es1 t2) } := by
          intro m e5 e6 e7
          exact wpAny_bind (relay_ok (kd := kd) (s := { s with heap := s.heap.update a (Obj.putSet es1 t2) }) g hx rfl p1 p3 nd1 T3 l2 pl2 e5 e6 e7 fun h' sb' K' => wpAny_pure (q true h' (sb.trans sb') K'))
        rcases sz with ⟨z1, z2⟩ | ⟨z1, z2⟩ | ⟨z1, z2⟩
        · have : es.size = 4 := by omega
          exact go 31 (by rw [this]; exact sa20) cyc32 (by rw [sz1, this]; right; left; exact ⟨rfl, by decide⟩)
        · have : es.size = 18 := by omega
          exact go 127 (by rw [this]; exact sa76) cyc128 (by rw [sz1, this]; right; right; exact ⟨rfl, by decide⟩)
        · omega
      · rw [tf, decide_eq_false c]
        simp only [Bool.not_false, Bool.and_false, Bool.false_eq_true, ↓reduceIte]
        refine wpAny_bind (wpAny_pure (wpAny_pure (q true _ sb (kk ?_))))
        rw [m2, sz1]
        unfold SzOk at sz ⊢
        omega
    rw [e3]
    by_cases hpn : t.plain = true
    · rw [hpn]
      simp only [↓reduceIte]
      refine wpAny_bind (kd.byVal hk ?_)
      simp only [Bool.false_eq_true, ↓reduceIte]
      exact tail { t1 with plain := false } T2.plainOff (e2.trans hl) rfl e4
    · have hpf : t.plain = false := by simpa using hpn
      rw [hpf]
      simp only [Bool.false_eq_true, ↓reduceIte]
      refine wpAny_bind (wpAny_pure ?_)
      simp only [↓reduceIte]
      exact tail t1 T2 (e2.trans hl) (e3.trans hpf) e4
  · by_cases c : k ∈ ks
    · left
      obtain ⟨e, he, h3⟩ := paired_mem' hel k (hp.mem_iff.mpr c)
      obtain ⟨i0, hi0⟩ := List.getElem?_of_mem he
      have lt : i0 < t.place.size := by
        have := TO.len
        simp at this
        have h4 := (List.getElem?_eq_some_iff.mp hi0).1
        simp at h4
        omega
      have ek : e.1 = kd.hash k := by obtain ⟨b, h4, h5⟩ := h3; rw [h4]
      have mz : (t.place[i0], kd.hash k) ∈ t.place.toList.zip (es.toList.map (·.1)) := by
        rw [List.mem_iff_getElem?]
        refine ⟨i0, ?_⟩
        rw [List.getElem?_zip_eq_some]
        refine ⟨by simp [lt], ?_⟩
        rw [List.getElem?_map, hi0]
        show some e.1 = _
        rw [ek]
      obtain ⟨n0, g1, g2, g3⟩ := TO.path _ mz
      refine ⟨i0, n0, e, by rw [← Array.getElem?_toList]; exact hi0, (sm e k h3).mpr rfl, by rw [g2]; exact Array.getElem?_eq_getElem lt, Nat.zero_le _, ?_⟩
      apply Nat.lt_of_not_le
      intro z
      rcases Nat.lt_or_eq_of_le z with z | z
      · exact fr (g3 N z)
      · rw [z, g2] at fr
        exact fr (by simp)
    · right
      intro e he
      cases hs : same e.2 with
      | false => rfl
      | true => exact absurd (ex ⟨e, he, hs⟩) c
end
end ST
namespace L2
open PySem PySem.Spec PyProof.Rows
section
variable {P : Program} {w : World} {A : Around} {R : Result → Shared → Prop} {I : Addr} {fp wr : List Addr} {G : Array GenState → Array GenState → Prop} {n : Nat} {Pv : Nat → Value → Prop} {St : Nat → Shared → Prop}
end
section
variable {P : Program} {w : World} {A : Around} {E : Value → Shared → Prop} {s : Shared}
abbrev ledW (w : World) : Bool := !(w.params.followText "set-order")
theorem set_new1 (a : Value) {Q₁ : Value → Shared → Prop} (h : Q₁ (.ref s.heap.objs.size) { s with heap := s.heap.push { cls := .type "set", dict := none, data := .set #[] 0 (.fresh 0 0 (ledW w)) } }) :
    codeAny (model P w) A (.call (.builtin "set.__new__") ⟨[.type "set", a], []⟩) (wants Q₁ E) s := by
  refine codeAny_of_tree ?_
  show wpAny _ A.in1 (do checkBuiltinCall "set.__new__" ⟨[.type "set", a], []⟩; again (.builtin "set.__new__" ⟨[.type "set", a], []⟩)) _ _ s
  refine wpAny_bind (wpAny_of_eq (F.newCall_set_1 a) (wpAny_pure ⟨plainId_quiet F.plain_set_new _, codeAny_builtin F.entry_set_new ?_⟩))
  rw [Around.under_plainId F.plain_set_new _]
  unfold Builtin.«set.__new__» Builtin.Frozenset.newClass
  have hsub := sub_set_self
  obtain ⟨hp, g, d, tk, os⟩ := s
  dsimp only
  wp_walk
  refine wpAny_askSetting (wpAny_pure ?_)
  dsimp only
  simp only [newObj]
  refine wpAny_bind (wpAny_alloc (wpAny_pure ?_))
  exact wpAny_pure h
end
end L2
namespace L2
open PySem PySem.Spec PyProof.Rows
section
variable {P : Program} {w : World} {A : Around} {E : Value → Shared → Prop} {s : Shared}
abbrev newS (w : World) : Obj := { cls := .type "set", dict := none, data := .set #[] 0 (.fresh 0 0 (ledW w)) }
end
end L2
namespace L2
open PySem PySem.Spec PyProof.Rows
theorem slot_sit (n : String) (id : String) (nm : Str) (hl : typeLookup (.type "set_iterator") nm = pure (some (.builtin id))) (hs : splitId id = some ("set_iterator", n)) (h1 : withoutEnding? id "#opaque" = none) (h2 : withoutEnding? id "#data" = none) (h3 : (Manifest.find? "set_iterator").bind (·.attrs.lookup n) = some .slot) (h4 : plainId id = true) : Slot "set_iterator" nm id :=
  .of hl hs h1 h2 (.inl h3) (by rw [isSubtype_type]; kernel_rfl) h4
theorem slot_sit_next : Slot "set_iterator" "__next__" "set_iterator.__next__" := slot_sit "__next__" _ _ (by rw [typeLookup_type, builtinLookup_eq_fast]; kernel_rfl) (by decide +kernel) (by decide +kernel) (by decide +kernel) (by decide +kernel) (by decide +kernel)
theorem entry_sit_next : entryFor table "set_iterator.__next__" = some Builtin.«set_iterator.__next__» := entryFor_of_fast (by kernel_rfl)
theorem entry_set_it : entryFor table "set.__iter__" = some Builtin.«frozenset.__iter__» := entryFor_alias (id' := "frozenset.__iter__") (by kernel_rfl) rfl (by decide +kernel) (by kernel_rfl)
theorem args_sit_next (a : Value) : argsOk "set_iterator.__next__" ⟨[a], []⟩ := by unfold argsOk; kernel_rfl
theorem erase_perm {α : Type} : ∀ (l : List α) (i : Nat) (x : α), l[i]? = some x → (x :: l.eraseIdx i).Perm l
  | [], i, x, h => by cases h
  | a :: r, 0, x, h => by cases h; exact List.Perm.refl _
  | a :: r, i + 1, x, h => by
    have ih := erase_perm r i x h
    show (x :: a :: r.eraseIdx i).Perm (a :: r)
    exact (List.Perm.swap a x _).trans (ih.cons a)
theorem pick_go {α : Type} (next : Nat → Nat) : ∀ (f k : Nat) (left : List α) (out : Array α), left.length = f → (pickOrder.go next f k left out).toList.Perm (out.toList ++ left)
  | 0, k, left, out, h => by
    rw [List.length_eq_zero_iff.mp h, List.append_nil]
    exact List.Perm.refl _
  | f + 1, k, left, out, h => by
    have lt : next k % left.length < left.length := Nat.mod_lt _ (by omega)
    have e : left[next k % left.length]? = some (left[next k % left.length]) := List.getElem?_eq_getElem lt
    unfold pickOrder.go
    rw [e]
    have ih := pick_go next f (k + 1) (left.eraseIdx (next k % left.length)) (out.push left[next k % left.length]) (by rw [List.length_eraseIdx]; rw [if_pos lt]; omega)
    refine ih.trans ?_
    rw [Array.toList_push, List.append_assoc]
    exact (erase_perm _ _ _ e).append_left _
theorem pick_perm {α : Type} (next : Nat → Nat) (xs : Array α) : (pickOrder next xs).toList.Perm xs.toList := by
  have := pick_go next xs.size 0 xs.toList #[] Array.length_toList
  exact this
section
variable {M : Model} {A : Around} {E : Value → Shared → Prop}
theorem wp_chs {s : Shared} {src : Source} {n : Nat} {Q : Nat → Shared → Prop} (h0 : n ≠ 0) (h : ∀ j d, j < n → Q j { s with drawn := d }) : wpAny M A (choose src n) Q E s := fun _ _ _ => ⟨h0, h _ _ (Nat.mod_lt _ (Nat.pos_of_ne_zero h0))⟩
theorem wp_draw {α : Type} : ∀ (n : Nat) (xs : List α) (s : Shared) (Q : List α → Shared → Prop), xs.length = n → (∀ ys d, ys.Perm xs → Q ys { s with drawn := d }) → wpAny M A (drawOrder n xs) Q E s
  | 0, xs, s, Q, h, q => by
    rw [List.length_eq_zero_iff.mp h] at q ⊢
    unfold drawOrder
    exact wpAny_pure (q [] s.drawn (List.Perm.refl _))
  | n + 1, [], s, Q, h, q => by cases h
  | n + 1, a :: r, s, Q, h, q => by
    unfold drawOrder
    refine wpAny_bind (wp_chs (by rw [h]; exact Nat.succ_ne_zero _) fun j d lj => ?_)
    have e : (a :: r)[j]? = some ((a :: r)[j]) := List.getElem?_eq_getElem lj
    rw [e]
    refine wpAny_bind (wp_draw n ((a :: r).eraseIdx j) _ _ (by rw [List.length_eraseIdx, if_pos lj]; omega) fun ys d2 p => ?_)
    exact wpAny_pure (q _ d2 ((p.cons _).trans (erase_perm _ _ _ e)))
end
end L2
namespace L2
open PySem PySem.Spec PyProof.Rows
def IsSit (h : Heap) (I S : Addr) (fst : Value) (i n ep : Nat) : Prop := ∃ o, h.get? I = some o ∧ o.cls = .type "set_iterator" ∧ o.data = .fields #[fst, .int i 0, .ref S, .int n 0, .int ep 0]
abbrev byT (w : World) : Bool := w.params.followText "set-order"
def SMode (w : World) (h : Heap) (S : Addr) (es : Array (Int × Value)) (ep : Nat) (t : SetTable) (vals : List Value) (fst : Value) (i : Nat) : Prop :=
  (byT w = true ∧ fst = .int 0 0 ∧ vals = (pickOrder (w.params.setOrder S ep) es).toList.map (·.2)) ∨
  (byT w = false ∧ ∃ (Pt : Addr) (ps : List Nat) (o : Obj) (n : Nat), fst = .ref Pt ∧ h.get? Pt = some o ∧ o.data = .seq (ps.map fun p : Nat => Value.int p 0).toArray n ∧ ps.Perm (List.range es.size) ∧ vals = ps.map fun p => (es.toList.getD p (0, .none)).2) ∨
  (byT w = false ∧ es.size ≤ 1 ∧ (!t.plain && decide (1 < es.size)) = false ∧ (!t.led && !es.isEmpty) = false ∧ ∃ k : Nat, fst = .int k 0 ∧ vals = es.toList.map (·.2) ∧ (i = 0 → k = 0) ∧ (i = 1 → ∃ j, t.place[0]? = some j ∧ k = j + 1))
theorem range_getD (l : List (Int × Value)) : ((List.range l.length).map fun p => (l.getD p (0, Value.none)).2) = l.map (·.2) := by
  refine List.ext_getElem (by simp) fun i h1 h2 => ?_
  simp at h1 h2
  simp [List.getD_eq_getElem?_getD, h1]
theorem SMode.perm {w : World} {h : Heap} {S : Addr} {es : Array (Int × Value)} {ep : Nat} {t : SetTable} {vals : List Value} {fst : Value} {i : Nat} (m : SMode w h S es ep t vals fst i) : vals.Perm (es.toList.map (·.2)) := by
  rcases m with ⟨_, _, rfl⟩ | ⟨_, Pt, ps, o, n, _, _, _, p, rfl⟩ | ⟨_, _, _, _, k, _, rfl, _⟩
  · exact (pick_perm _ _).map _
  · have := p.map fun p => (es.toList.getD p (0, Value.none)).2
    rw [← Array.length_toList, range_getD] at this
    exact this
  · exact List.Perm.refl _
section
variable {P : Program} {w : World} {A : Around} {E : Value → Shared → Prop} {s : Shared}
theorem iter_set {S : Addr} {o : Obj} {es : Array (Int × Value)} {ep : Nat} {t : SetTable} {Q : Value → Shared → Prop} (ho : s.heap.get? S = some o) (hx : o.ExactSet) (hd : o.data = .set es ep t) (hf : t.fits es.size = true) (hl : t.led = !byT w) (hp : 0 < es.size → t.plain = false) (hb : es.size < scanBound)
    (q : ∀ (I : Addr) (h' : Heap) (d : Drawn) (vals : List Value) (fst : Value), (∀ b o, s.heap.get? b = some o → h'.get? b = some o) → s.heap.objs.size ≤ I → IsSit h' I S fst 0 es.size ep → SMode w h' S es ep t vals fst 0 → (∀ Pt, fst = .ref Pt → Pt ≠ I ∧ s.heap.objs.size ≤ Pt) → Q (.ref I) { s with heap := h', drawn := d }) :
    wpAny (model P w) A (pyIter (.ref S)) Q E s := by
  have tS : s.TypeIs (.ref S) "set" := ⟨o, ho, hx.1⟩
  refine wpAny_pyIter_slot tS F.slot_set_iter (wpAny_call_entry F.slot_set_iter tS entry_set_it ?_ (F.args_set_iter_1 _))
  show wpAny _ _ (Builtin.Frozenset.sizeOf S >>= _) _ _ s
  refine wpAny_bind ?_
  unfold Builtin.Frozenset.sizeOf
  refine wpAny_bind (wpAny_setEntries_of ho hd hf (wpAny_pure ?_))
  show wpAny _ _ (setDrawn S >>= _) _ _ s
  refine wpAny_bind ?_
  unfold setDrawn setsByText
  refine wpAny_bind (wpAny_setState_of ho hd hf ?_)
  dsimp only
  refine wpAny_bind (wpAny_bind (wpAny_askSetting (wpAny_pure ?_)))
  refine wpAny_pure ?_
  show wpAny _ _ (if (!byT w && (!t.plain && decide (es.size > 1))) = true then _ else _) _ _ s
  by_cases c : (!byT w && (!t.plain && decide (es.size > 1))) = true
  · rw [if_pos c]
    obtain ⟨c1, c2⟩ := Bool.and_eq_true_iff.mp c
    have nb : byT w = false := by simpa using c1
    refine wpAny_bind (wp_draw es.size (List.range es.size) s _ List.length_range fun ys d p => ?_)
    refine wpAny_bind ?_
    simp only [newTuple]
    refine wpAny_newObj_type ?_ ?_
    rotate_left
    · have l1 := p.length_eq
      rw [List.length_range] at l1
      have := fits_of_scanBound hb
      show ((List.map (fun i : Nat => rawInt (i : Int)) ys).toArray).size ≤ sizeLine
      rw [List.size_toArray, List.length_map]
      omega
    refine wpAny_bind (wpAny_setEpoch_of (Heap.get?_push_of_some _ ho) hd hf ?_)
    refine wpAny_bind (wpAny_newObj_type (wpAny_pure ⟨_, rfl, "set_iterator", _, ⟨_, Heap.get?_push_size _ rfl, rfl⟩, slot_sit_next.lookup, ?_⟩))
    refine q _ _ d (ys.map fun p => (es.toList.getD p (0, .none)).2) _ (fun b o e => Heap.get?_push_of_some _ (Heap.get?_push_of_some _ e)) ?_ ⟨_, Heap.get?_push_size _ rfl, rfl, rfl⟩ (.inr (.inl ⟨nb, s.heap.objs.size, ys, _, _, rfl, Heap.get?_push_of_some _ (Heap.get?_push_size _ rfl), rfl, p, rfl⟩)) fun Pt e => ?_
    · rw [Heap.size_push]; exact Nat.le_succ _
    · cases e
      rw [Heap.size_push]
      exact ⟨Nat.ne_of_lt (Nat.lt_succ_self _), Nat.le_refl _⟩
  · rw [if_neg c]
    refine wpAny_bind (wpAny_pure ?_)
    refine wpAny_bind (wpAny_setEpoch_of ho hd hf ?_)
    refine wpAny_bind (wpAny_newObj_type (wpAny_pure ⟨_, rfl, "set_iterator", _, ⟨_, Heap.get?_push_size _ rfl, rfl⟩, slot_sit_next.lookup, ?_⟩))
    have go : ∀ vals, SMode w (s.heap.push { cls := .type "set_iterator", data := .fields [rawInt 0, rawInt 0, Value.ref S, rawInt es.size, rawInt ep].toArray }) S es ep t vals (.int 0 0) 0 → Q (.ref s.heap.objs.size) { s with heap := s.heap.push { cls := .type "set_iterator", data := .fields [rawInt 0, rawInt 0, Value.ref S, rawInt es.size, rawInt ep].toArray } } := fun vals m =>
      q _ _ s.drawn vals _ (fun b o e => Heap.get?_push_of_some _ e) (Nat.le_refl _) ⟨_, Heap.get?_push_size _ rfl, rfl, rfl⟩ m fun Pt e => by cases e
    cases hbt : byT w with
    | true => exact go _ (.inl ⟨hbt, rfl, rfl⟩)
    | false =>
      rw [hbt] at c
      have c3 : ¬ (!t.plain && decide (es.size > 1)) = true := by simpa using c
      have le1 : es.size ≤ 1 := by
        by_cases z : 0 < es.size
        · rw [hp z] at c3
          simp at c3
          omega
        · omega
      refine go _ (.inr (.inr ⟨hbt, le1, by simpa using c3, ?_, 0, rfl, rfl, fun _ => rfl, fun z => by cases z⟩))
      rw [hl, hbt]
      rfl
end
end L2
namespace L2
open PySem PySem.Spec PyProof.Rows
section
variable {P : Program} {w : World} {A : Around} {E : Value → Shared → Prop} {s : Shared}
theorem sn_text {S : Addr} {o : Obj} {es : Array (Int × Value)} {ep : Nat} {t : SetTable} {R : Option (Value × Nat) → Shared → Prop} (ho : s.heap.get? S = some o) (hd : o.data = .set es ep t) (hf : t.fits es.size = true) (bt : byT w = true) (k i : Nat) (q : R (((pickOrder (w.params.setOrder S ep) es)[i]?).map fun e => (e.2, k)) s) : wpAny (model P w) A (setNext S k i ep) R E s := by
  unfold setNext setsByText
  refine wpAny_bind (wpAny_setState_of ho hd hf ?_)
  dsimp only
  refine wpAny_bind (wpAny_bind (wpAny_askSetting (wpAny_pure ?_)))
  show wpAny _ _ (if byT w = true then _ else _) _ _ s
  rw [if_pos bt, show (ep != ep) = false by simp, if_neg Bool.false_ne_true]
  unfold setWalk setsByText
  refine wpAny_bind (wpAny_bind (wpAny_setState_of ho hd hf ?_))
  dsimp only
  refine wpAny_bind (wpAny_bind (wpAny_askSetting (wpAny_pure ?_)))
  show wpAny _ _ (if byT w = true then _ else _) _ _ s
  rw [if_pos bt]
  exact wpAny_bind (wpAny_askSetting (wpAny_pure (wpAny_pure q)))
theorem sn_place {S : Addr} {o : Obj} {es : Array (Int × Value)} {ep : Nat} {t : SetTable} {R : Option (Value × Nat) → Shared → Prop} (ho : s.heap.get? S = some o) (hd : o.data = .set es ep t) (hf : t.fits es.size = true) (bt : byT w = false) (dr : (!t.plain && decide (1 < es.size)) = false) (ld : (!t.led && !es.isEmpty) = false) (k i : Nat)
    (q : R (match es[SetTable.below t.place k]?, t.place[SetTable.below t.place k]? with | some (_, x), some j => some (x, j + 1) | _, _ => none) s) : wpAny (model P w) A (setNext S k i ep) R E s := by
  unfold setNext setsByText
  refine wpAny_bind (wpAny_setState_of ho hd hf ?_)
  dsimp only
  refine wpAny_bind (wpAny_bind (wpAny_askSetting (wpAny_pure ?_)))
  show wpAny _ _ (if byT w = true then _ else if (!t.plain && decide (es.size > 1)) = true then _ else _) _ _ s
  rw [bt, if_neg Bool.false_ne_true, show (!t.plain && decide (es.size > 1)) = false from dr, if_neg Bool.false_ne_true]
  refine wpAny_bind ?_
  show wpAny _ _ (if (!t.led && !es.isEmpty) = true then _ else _) _ _ s
  rw [ld, if_neg Bool.false_ne_true]
  exact wpAny_pure (wpAny_pure q)
theorem sit_set0 {I S : Addr} {fst : Value} {i n ep : Nat} {Q : Unit → Shared → Prop} (hit : IsSit s.heap I S fst i n ep) (x : Value) (q : ∀ h', Heap.SameBut I s.heap h' → IsSit h' I S x i n ep → Q () { s with heap := h' }) : wpAny (model P w) A (setField (.ref I) 0 x) Q E s := by
  obtain ⟨o, ho, hc, hd⟩ := hit
  refine wpAny_setField ho hd (by simp) (q _ (Heap.SameBut.update ..) ⟨_, Heap.get?_update_self _ ho (Obj.isFreed_of_fields (Obj.data_mapFields hd _)), (Obj.cls_mapFields ..).trans hc, ?_⟩)
  rw [Obj.data_mapFields hd]
  simp
theorem sit_set1 {I S : Addr} {fst : Value} {i n ep : Nat} {Q : Unit → Shared → Prop} (hit : IsSit s.heap I S fst i n ep) (q : ∀ h', Heap.SameBut I s.heap h' → IsSit h' I S fst (i + 1) n ep → Q () { s with heap := h' }) : wpAny (model P w) A (setField (.ref I) 1 (rawInt ((i : Int) + 1))) Q E s := by
  obtain ⟨o, ho, hc, hd⟩ := hit
  refine wpAny_setField ho hd (by simp) (q _ (Heap.SameBut.update ..) ⟨_, Heap.get?_update_self _ ho (Obj.isFreed_of_fields (Obj.data_mapFields hd _)), (Obj.cls_mapFields ..).trans hc, ?_⟩)
  rw [Obj.data_mapFields hd]
  simp [rawInt]
theorem below_one (j k : Nat) : SetTable.below #[j] k = if j < k then 1 else 0 := by
  unfold SetTable.below
  show SetTable.below.go #[j] k 1 0 1 = _
  unfold SetTable.below.go
  simp
  by_cases c : j < k
  · rw [if_pos c, if_pos c]; rfl
  · rw [if_neg c, if_neg c]; rfl
theorem next_set {S I : Addr} {o : Obj} {es : Array (Int × Value)} {ep i : Nat} {t : SetTable} {vals : List Value} {fst v : Value} {Q : Option Value → Shared → Prop} (hit : IsSit s.heap I S fst i es.size ep) (ho : s.heap.get? S = some o) (hd : o.data = .set es ep t) (hf : t.fits es.size = true) (m : SMode w s.heap S es ep t vals fst i) (nI : ∀ Pt, fst = .ref Pt → Pt ≠ I) (hv : vals[i]? = some v)
    (q : ∀ (h' : Heap) (fst' : Value), Heap.SameBut I s.heap h' → IsSit h' I S fst' (i + 1) es.size ep → SMode w h' S es ep t vals fst' (i + 1) → (∀ Pt, fst' = .ref Pt → fst = .ref Pt) → Q (some v) { s with heap := h' }) :
    wpAny (model P w) A (pyNext (.ref I)) Q E s := by
  obtain ⟨oi, hoi, hci, hdi⟩ := id hit
  have tI : s.TypeIs (.ref I) "set_iterator" := ⟨oi, hoi, hci⟩
  unfold pyNext
  refine wpAny_bind (wpAny_attempt (wpAny_callSpecial?_slot (name := Str.ofString "__next__") tI slot_sit_next (wpAny_call_entry slot_sit_next tI entry_sit_next ?_ (args_sit_next _))))
  show wpAny _ _ (fieldsOf (.ref I) >>= _) _ _ s
  refine wpAny_bind (wpAny_fieldsOf hoi hdi ?_)
  show wpAny _ _ (setEntries S >>= _) _ _ s
  refine wpAny_bind (wpAny_setEntries_of ho hd hf ?_)
  have ne : ((es.size : Int) != (es.size : Int)) = false := by simp
  dsimp only
  rw [ne]
  rw [if_neg Bool.false_ne_true]
  rcases m with ⟨bt, rfl, hvs⟩ | ⟨bt, Pt, ps, po, pn, rfl, hpt, hpd, pp, hvs⟩ | ⟨bt, le1, dr, ld, k, rfl, hvs, k0, k1⟩
  · dsimp only
    simp only [Int.toNat_natCast]
    rw [hvs, List.getElem?_map] at hv
    obtain ⟨e, ee, ev⟩ := Option.map_eq_some_iff.mp hv
    refine wpAny_bind (sn_text ho hd hf bt _ _ ?_)
    rw [← Array.getElem?_toList, ee]
    refine wpAny_bind (sit_set0 hit _ fun h1 b1 i1 => wpAny_bind (sit_set1 (s := { s with heap := h1 }) i1 fun h2 b2 i2 => wpAny_pure ⟨_, rfl, wpAny_pure ?_⟩))
    show Q (some e.2) { s with heap := h2 }
    rw [show e.2 = v from ev]
    exact q h2 _ (b1.trans b2) i2 (.inl ⟨bt, rfl, hvs⟩) fun Pt z => by cases z
  · dsimp only
    simp only [Int.toNat_natCast]
    refine wpAny_bind (wpAny_seqItems hpt hpd ?_)
    dsimp only
    have hv0 := hv
    rw [hvs, List.getElem?_map] at hv
    obtain ⟨p, ep2, ev⟩ := Option.map_eq_some_iff.mp hv
    have lp : p < es.size := List.mem_range.mp (pp.mem_iff.mp (List.mem_of_getElem? ep2))
    have e1 : ((ps.map fun p : Nat => Value.int p 0).toArray)[i]? = some (Value.int p 0) := by
      rw [List.getElem?_toArray, List.getElem?_map, ep2]
      rfl
    rw [e1]
    dsimp only
    refine wpAny_bind ?_
    unfold setNextDrawn
    simp only [Int.toNat_natCast]
    refine wpAny_bind (wpAny_setState_of ho hd hf ?_)
    dsimp only
    rw [show (ep != ep) = false by simp, if_neg Bool.false_ne_true]
    have e2 : es[p]? = some es[p] := Array.getElem?_eq_getElem lp
    rw [e2]
    have ev2 : es[p].2 = v := by
      rw [← ev, List.getD_eq_getElem?_getD, Array.getElem?_toList, e2]
      rfl
    refine wpAny_pure ?_
    refine wpAny_bind (sit_set1 hit fun h2 b2 i2 => wpAny_pure ⟨_, rfl, wpAny_pure ?_⟩)
    show Q (some es[p].2) { s with heap := h2 }
    rw [ev2]
    exact q h2 _ b2 i2 (.inr (.inl ⟨bt, Pt, ps, po, pn, rfl, b2.extBut Pt po (nI Pt rfl) hpt, hpd, pp, hvs⟩)) fun Pt z => z
  · dsimp only
    simp only [Int.toNat_natCast]
    have hv0 := hv
    rw [hvs, List.getElem?_map, Array.getElem?_toList] at hv
    obtain ⟨e, ee, ev⟩ := Option.map_eq_some_iff.mp hv
    have li := (Array.getElem?_eq_some_iff.mp ee).1
    obtain rfl : i = 0 := by omega
    have sz : es.size = 1 := by omega
    obtain rfl := k0 rfl
    have sp : t.place.size = 1 := by
      have h1 : (t.place.size == es.size && decide (t.fill ≤ t.mask)) = true := hf
      have := (Bool.and_eq_true_iff.mp h1).1
      rw [← sz]
      simpa using this
    obtain ⟨j, ej⟩ : ∃ j, t.place = #[j] := ⟨t.place[0], Array.ext (by simp [sp]) fun i h1 h2 => by
      have : i = 0 := by simp at h2; exact h2
      subst this
      rfl⟩
    refine wpAny_bind (sn_place ho hd hf bt dr ld _ _ ?_)
    rw [ej, below_one, if_neg (Nat.not_lt_zero _), ee]
    obtain ⟨eh, ex⟩ := e
    show wpAny _ _ (setField (.ref I) 0 (rawInt ((j + 1 : Nat) : Int)) >>= _) _ _ s
    refine wpAny_bind (sit_set0 hit _ fun h1 b1 i1 => wpAny_bind (sit_set1 (s := { s with heap := h1 }) i1 fun h2 b2 i2 => wpAny_pure ⟨_, rfl, wpAny_pure ?_⟩))
    show Q (some ex) { s with heap := h2 }
    rw [show ex = v from ev]
    exact q h2 _ (b1.trans b2) i2 (.inr (.inr ⟨bt, le1, dr, ld, j + 1, rfl, hvs, (fun z => by cases z), fun _ => ⟨j, by rw [ej]; rfl, rfl⟩⟩)) fun Pt z => by cases z
end
end L2
namespace L2
open PySem PySem.Spec PyProof.Rows
section
variable {P : Program} {w : World} {A : Around} {E : Value → Shared → Prop} {s : Shared}
theorem stop_it {Q : Option Value → Shared → Prop} {F : PySem.Fin → Shared → Prop} (hh : A.handled = none) (q : ∀ h', (∀ b o, s.heap.get? b = some o → h'.get? b = some o) → Q none { s with heap := h' }) :
    wpAny (model P w) A.in1 (newExc (.type "StopIteration") [] >>= fun x => (raiseNew x : Sem PySem.Fin)) F (fun e s' => wpAny (model P w) A (isInstance e (Value.type "StopIteration") >>= fun b => if b = true then pure none else throw e) Q E s') s := by
  refine wpAny_bind ?_
  simp only [newExc, newTuple]
  refine wpAny_bind (wpAny_newObj_type ?_ (by size_fits))
  refine wpAny_bind (m := firstArgMember _ _) (wpAny_of_eq (a := Value.none) (by first | rfl | (simp only [firstArgMember]; rfl)) ?_)
  refine wpAny_newObj_type ?_ (by size_fits)
  simp only [raiseNew]
  refine wpAny_bind (wpAny_handled ?_)
  rw [show A.in1.handled = none from hh]
  refine wpAny_bind (wpAny_pure (wpAny_throw ?_))
  refine wpAny_bind (wpAny_isInstance (T := "StopIteration") (b := true) ⟨_, Heap.get?_push_size _ rfl, rfl⟩ isSubtype_stop ?_)
  exact wpAny_pure (q _ fun b o e => Heap.get?_push_of_some _ (Heap.get?_push_of_some _ e))
theorem sit_set2 {I S : Addr} {fst : Value} {i n ep : Nat} {Q : Unit → Shared → Prop} (hit : IsSit s.heap I S fst i n ep) (q : ∀ h', Heap.SameBut I s.heap h' → Q () { s with heap := h' }) : wpAny (model P w) A (setField (.ref I) 2 Value.none) Q E s := by
  obtain ⟨o, ho, hc, hd⟩ := hit
  exact wpAny_setField ho hd (by simp) (q _ (Heap.SameBut.update ..))
theorem end_set {S I : Addr} {o : Obj} {es : Array (Int × Value)} {ep i : Nat} {t : SetTable} {vals : List Value} {fst : Value} {Q : Option Value → Shared → Prop} (hh : A.handled = none) (hit : IsSit s.heap I S fst i es.size ep) (ho : s.heap.get? S = some o) (hd : o.data = .set es ep t) (hf : t.fits es.size = true) (m : SMode w s.heap S es ep t vals fst i) (hi : i = es.size)
    (q : ∀ (h' : Heap), (∀ b o, b ≠ I → s.heap.get? b = some o → h'.get? b = some o) → Q none { s with heap := h' }) :
    wpAny (model P w) A (pyNext (.ref I)) Q E s := by
  obtain ⟨oi, hoi, hci, hdi⟩ := id hit
  have tI : s.TypeIs (.ref I) "set_iterator" := ⟨oi, hoi, hci⟩
  have lv : vals.length = es.size := by rw [m.perm.length_eq, List.length_map, Array.length_toList]
  unfold pyNext
  refine wpAny_bind (wpAny_attempt (wpAny_callSpecial?_slot (name := Str.ofString "__next__") tI slot_sit_next (wpAny_call_entry slot_sit_next tI entry_sit_next ?_ (args_sit_next _))))
  show wpAny _ _ (fieldsOf (.ref I) >>= _) _ _ s
  refine wpAny_bind (wpAny_fieldsOf hoi hdi ?_)
  show wpAny _ _ (setEntries S >>= _) _ _ s
  refine wpAny_bind (wpAny_setEntries_of ho hd hf ?_)
  have ne : ((es.size : Int) != (es.size : Int)) = false := by simp
  dsimp only
  rw [ne]
  rw [if_neg Bool.false_ne_true]
  rcases m with ⟨bt, rfl, hvs⟩ | ⟨bt, Pt, ps, po, pn, rfl, hpt, hpd, pp, hvs⟩ | ⟨bt, le1, dr, ld, k, rfl, hvs, k0, k1⟩
  · dsimp only
    simp only [Int.toNat_natCast]
    refine wpAny_bind (sn_text ho hd hf bt _ _ ?_)
    have e0 : (pickOrder (w.params.setOrder S ep) es)[i]? = none := by
      rw [← Array.getElem?_toList]
      refine List.getElem?_eq_none ?_
      rw [(pick_perm _ _).length_eq, Array.length_toList]
      omega
    rw [e0]
    exact wpAny_bind (sit_set2 hit fun h1 b1 => stop_it (s := { s with heap := h1 }) hh fun h' k => q h' fun b o nb e => k b o (b1.extBut b o nb e))
  · dsimp only
    simp only [Int.toNat_natCast]
    refine wpAny_bind (wpAny_seqItems hpt hpd ?_)
    dsimp only
    have e0 : ((ps.map fun p : Nat => Value.int p 0).toArray)[i]? = none := by
      rw [List.getElem?_toArray]
      refine List.getElem?_eq_none ?_
      rw [List.length_map, pp.length_eq, List.length_range]
      omega
    rw [e0]
    exact wpAny_bind (sit_set0 hit _ fun h0 b0 i0 => wpAny_bind (sit_set2 (s := { s with heap := h0 }) i0 fun h1 b1 => stop_it (s := { s with heap := h1 }) hh fun h' k => q h' fun b o nb e => k b o (b1.extBut b o nb (b0.extBut b o nb e))))
  · dsimp only
    simp only [Int.toNat_natCast]
    refine wpAny_bind (sn_place ho hd hf bt dr ld _ _ ?_)
    have sp : t.place.size = es.size := by
      have h1 : (t.place.size == es.size && decide (t.fill ≤ t.mask)) = true := hf
      simpa using (Bool.and_eq_true_iff.mp h1).1
    have e0 : es[SetTable.below t.place k]? = none := by
      by_cases z : es.size = 0
      · exact Array.getElem?_eq_none (by omega)
      · have i1 : i = 1 := by omega
        obtain ⟨j, ej, rfl⟩ := k1 i1
        obtain ⟨j', ej'⟩ : ∃ j, t.place = #[j] := ⟨t.place[0], Array.ext (by simp; omega) fun i h1 h2 => by
          have : i = 0 := by simp at h2; exact h2
          subst this
          rfl⟩
        rw [ej'] at ej ⊢
        cases (show some j' = some j from ej)
        rw [below_one, if_pos (Nat.lt_succ_self _)]
        exact Array.getElem?_eq_none (by omega)
    rw [e0]
    exact wpAny_bind (sit_set2 hit fun h1 b1 => stop_it (s := { s with heap := h1 }) hh fun h' k => q h' fun b o nb e => k b o (b1.extBut b o nb e))
end
end L2
namespace L2
open PySem PySem.Spec PyProof.Rows
theorem slot_sit_iter : Slot "set_iterator" "__iter__" "set_iterator.__iter__" := slot_sit "__iter__" _ _ (by rw [typeLookup_type, builtinLookup_eq_fast]; kernel_rfl) (by decide +kernel) (by decide +kernel) (by decide +kernel) (by decide +kernel) (by decide +kernel)
theorem entry_sit_iter : entryFor table "set_iterator.__iter__" = some Builtin.«dict_keyiterator.__iter__» := entryFor_alias (id' := "dict_keyiterator.__iter__") (by kernel_rfl) rfl (by decide +kernel) (by kernel_rfl)
theorem args_sit_iter (a : Value) : argsOk "set_iterator.__iter__" ⟨[a], []⟩ := by unfold argsOk; kernel_rfl
def fpS (I S : Addr) : Value → List Addr
  | .ref Pt => [I, S, Pt]
  | _ => [I, S]
structure SSt (w : World) (I S : Addr) (o : Obj) (es : Array (Int × Value)) (ep : Nat) (t : SetTable) (vals : List Value) (fp : List Addr) (i : Nat) (h : Heap) (fst : Value) : Prop where
  it : IsSit h I S fst i es.size ep
  ho : h.get? S = some o
  md : SMode w h S es ep t vals fst i
  pt : ∀ Pt, fst = .ref Pt → Pt ∈ fp ∧ Pt ≠ I
theorem SSt.at {w : World} {I S : Addr} {o : Obj} {es : Array (Int × Value)} {ep : Nat} {t : SetTable} {vals : List Value} {fp : List Addr} {i : Nat} {h h' : Heap} {fst : Value} (x : SSt w I S o es ep t vals fp i h fst) (hI : I ∈ fp) (hS : S ∈ fp) (k : ∀ b ∈ fp, ∀ o, h.get? b = some o → h'.get? b = some o) : SSt w I S o es ep t vals fp i h' fst := by
  obtain ⟨⟨oi, a, b⟩, ho, md, pt⟩ := x
  refine ⟨⟨oi, k I hI _ a, b⟩, k S hS _ ho, ?_, pt⟩
  rcases md with m | ⟨bt, Pt, ps, po, pn, e, hpt, r⟩ | m
  · exact .inl m
  · exact .inr (.inl ⟨bt, Pt, ps, po, pn, e, k Pt (pt Pt e).1 _ hpt, r⟩)
  · exact .inr (.inr m)
section
variable {P : Program} {w : World} {A : Around} {E : Value → Shared → Prop} {s : Shared}
theorem walk_set {I S : Addr} {o : Obj} {es : Array (Int × Value)} {ep : Nat} {t : SetTable} {vals : List Value} {fp : List Addr} (hh : A.handled = none) (nIS : S ≠ I) (hI : I ∈ fp) (hS : S ∈ fp) (hd : o.data = .set es ep t) (hf : t.fits es.size = true) :
    WalksS P w A I fp [I] (fun a b => b = a) es.size (fun i v => vals[i]? = some v) (fun i s => ∃ fst, SSt w I S o es ep t vals fp i s.heap fst) where
  sub := fun b hb => by rw [List.mem_singleton.mp hb]; exact hI
  grefl := fun _ => rfl
  gtrans := fun _ _ _ x y => by rw [y, x]
  frame := fun i s h' tk ⟨fst, x⟩ _ k => ⟨fst, x.at hI hS k⟩
  item := fun i s Q E hi ⟨fst, x⟩ q => by
    have lv : vals.length = es.size := by rw [x.md.perm.length_eq, List.length_map, Array.length_toList]
    have ev : vals[i]? = some vals[i] := List.getElem?_eq_getElem (by omega)
    refine next_set x.it x.ho hd hf x.md (fun Pt e => (x.pt Pt e).2) ev fun h' fst' sb it md ke => ?_
    refine q _ _ ev ⟨fst', it, sb.extBut S o nIS x.ho, md, fun Pt e => x.pt Pt (ke Pt e)⟩ ⟨fun b o hb e => sb.extBut b o (fun z => hb (by rw [z]; exact List.mem_cons_self)) e, rfl, rfl, rfl, Nat.le_refl _⟩
  done := fun s Q E ⟨fst, x⟩ q => by
    refine end_set hh x.it x.ho hd hf x.md rfl fun h' k => q _ ⟨fun b o hb e => k b o (fun z => hb (by rw [z]; exact List.mem_cons_self)) e, rfl, rfl, rfl, Nat.le_refl _⟩
  self := fun i s Q E ⟨fst, x⟩ q => by
    obtain ⟨oi, hoi, hci, _⟩ := x.it
    have tI : s.TypeIs (.ref I) "set_iterator" := ⟨oi, hoi, hci⟩
    refine wpAny_pyIter_slot tI slot_sit_iter (wpAny_call_entry slot_sit_iter tI entry_sit_iter ?_ (args_sit_iter _))
    show wpAny _ _ (ret (.ref I)) _ _ s
    exact wpAny_pure ⟨_, rfl, "set_iterator", _, tI, slot_sit_next.lookup, q⟩
end
end L2
namespace L2
open PySem PySem.Spec PyProof.Rows
section
variable {P : Program} {w : World} {A : Around} {E : Value → Shared → Prop} {s : Shared}
theorem wp_if {α : Type} {M : Model} {c : Prop} [Decidable c] {a b : Sem α} {Q : α → Shared → Prop} (hc : c) (h : wpAny M A a Q E s) : wpAny M A (if c then a else b) Q E s := by rw [if_pos hc]; exact h
abbrev emL : Obj := { cls := .type "list", data := .seq ([] : List Value).toArray }
end
end L2
namespace ST
open PySem PySem.Spec PyProof.Rows L2
theorem get_ge {h : Heap} {a : Addr} (l : h.objs.size ≤ a) : h.get? a = none := by
  cases e : h.get? a with
  | none => rfl
  | some o => exact absurd (Heap.lt_size e) (Nat.not_lt.mpr l)
def metK {K : Type} [DecidableEq K] (val : Nat → K) : Nat → List K
  | 0 => []
  | i + 1 => if val i ∈ metK val i then metK val i else metK val i ++ [val i]
theorem metK_len {K : Type} [DecidableEq K] (val : Nat → K) : ∀ i, (metK val i).length ≤ i
  | 0 => Nat.le_refl _
  | i + 1 => by
    have := metK_len val i
    show (if val i ∈ metK val i then metK val i else metK val i ++ [val i]).length ≤ i + 1
    split
    · omega
    · rw [List.length_append, List.length_singleton]; omega
section
variable {P : Program} {w : World} {K : Type} [DecidableEq K] {kd : EKind P w K} {A : Around} {R : Result → Shared → Prop} {I : Addr} {fp wr : List Addr} {G : Array GenState → Array GenState → Prop} {n : Nat} {Pv : Nat → Value → Prop} {St : Nat → Shared → Prop}
theorem loop_key (W : WalksS P w A.in1 I fp wr G n Pv St) (S : Addr) (hSf : S ∉ fp) (val : Nat → K) {h0 : Heap} (hval : ∀ i v, Pv i v → ∃ b, v = .ref b ∧ kd.is h0 (val i) b) (hb : n < 76) (led : Bool) (Rm : kd.room A.in1) (h0S : h0.get? S = none) (h0w : ∀ b ∈ wr, h0.get? b = none) :
    ∀ (k i : Nat) (s : Shared), n - i = k → i ≤ n → St i s → Keep h0 s.heap → KSet kd h0 s.heap S led (metK val i) →
      (∀ s', Moved (S :: wr) G s s' → KSet kd h0 s'.heap S led (metK val n) → R (.ok (.ret .none)) s') →
      codeAny (model P w) A (.builtin "set.update.loop" ⟨[.ref S, .ref I], []⟩) R s := by
  have hSw : S ∉ wr := fun h => hSf (W.sub _ h)
  have sub : ∀ b ∈ wr, b ∈ S :: wr := fun b hb => List.mem_cons_of_mem _ hb
  intro k
  induction k with
  | zero =>
    intro i s hk hi hst kp hS hR
    obtain rfl : i = n := by omega
    refine codeAny_builtin F.entry_set_update_loop ?_
    rw [Around.under_plainId F.plain_set_update_loop _]
    show wpAny _ A.in1 (pyNext (.ref I) >>= _) _ _ s
    refine wpAny_bind (W.done s _ _ hst fun s' hm => ?_)
    show wpAny _ A.in1 (ret Value.none) _ _ s'
    exact wpAny_pure (hR s' (hm.mono sub) (hS.at fun o e => hm.heap S _ hSw e))
  | succ k ih =>
    intro i s hk hi hst kp hS hR
    have hlt : i < n := by omega
    refine codeAny_builtin F.entry_set_update_loop ?_
    rw [Around.under_plainId F.plain_set_update_loop _]
    show wpAny _ A.in1 (pyNext (.ref I) >>= _) _ _ s
    refine wpAny_bind (W.item i s _ _ hlt hst fun v s' hP hst' hm => ?_)
    obtain ⟨vb, rfl, his⟩ := hval i v hP
    have nw : ∀ b o, h0.get? b = some o → b ∉ wr := fun b o e z => by rw [h0w b z] at e; cases e
    have kp' : Keep h0 s'.heap := fun b o e => hm.heap b o (nw b o e) (kp b o e)
    have hS' : KSet kd h0 s'.heap S led (metK val i) := hS.at fun o e => hm.heap S _ hSw e
    show wpAny _ A.in1 (holding [Value.ref vb] (setAdd S (.ref vb)) >>= _) _ _ s'
    refine wpAny_bind (wpAny_holding ?_)
    unfold setAdd
    refine wpAny_holding ?_
    refine wpAny_bind (kd.pyHash (k := val i) Rm (kd.keeps his kp') ?_)
    have room : (metK val i).length < 76 := by have := metK_len val i; omega
    refine add_key (s := { s' with toks := s'.toks + kd.draws (val i) }) Rm kp' hS' his room fun b h' hsb hS2 => ?_
    refine wpAny_pure ⟨plainId_quiet F.plain_set_update_loop _, ih (i + 1) _ (by omega) hlt (W.frame _ s' _ _ hst' (Nat.le_add_right _ _) fun b hb o e => ?_) ?_ hS2 fun s'' hm'' hS'' => ?_⟩
    · rw [hsb.2 b (fun h : b = S => hSf (by rw [← h]; exact hb))]; exact e
    · intro b o e
      show h'.get? b = some o
      rw [hsb.2 b (fun z => by rw [z, h0S] at e; cases e)]
      exact kp' b o e
    · refine hR s'' (Moved.trans W.gtrans ((hm.mono sub).then_heap (Nat.le_add_right _ _) fun b o hb e => ?_) hm'') hS''
      rw [hsb.2 b (fun h : b = S => hb (by rw [h]; exact List.mem_cons_self))]; exact e
end
section
variable {P : Program} {w : World} {K : Type} [DecidableEq K] {kd : EKind P w K} {A : Around} {E : Value → Shared → Prop} {s : Shared}
theorem kset_fresh {h0 h : Heap} {a : Addr} {led : Bool} (e : h.get? a = some { cls := .type "set", dict := none, data := .set #[] 0 (.fresh 0 0 led) }) : KSet kd h0 h a led [] :=
  ⟨_, #[], 0, _, e, ⟨rfl, rfl, rfl⟩, rfl, ⟨[], .nil, .refl _⟩, .nil, ⟨cyc8, rfl, .nil, rfl, Nat.zero_le _, fun q h => by cases h⟩, .inl ⟨rfl, Nat.zero_le _⟩, rfl, fun z => absurd z (Nat.lt_irrefl 0)⟩
theorem set_init_key {l S : Addr} {items : Array Value} {val : Nat → K} {h0 : Heap} {Q : Value → Shared → Prop} (hh : A.handled = none) (Rm : ∀ B : Around, B.units ≤ A.units + 3 → kd.room B) (hs : s.heap = h0.push (newS w)) (hS : S = h0.objs.size) (hl : h0.IsList l items) (hi : ∀ i v, items[i]? = some v → ∃ b, v = Value.ref b ∧ kd.is h0 (val i) b) (hb : items.size < 76)
    (q : ∀ (h' : Heap) (tk : Nat), KSet kd h0 h' S (ledW w) (metK val items.size) → (∀ b o, b < h0.objs.size → h0.get? b = some o → h'.get? b = some o) → Q .none { s with heap := h', toks := tk }) :
    codeAny (model P w) A (.call (.builtin "set.__init__") ⟨[.ref S, .ref l], []⟩) (wants Q E) s := by
  have gS : s.heap.get? S = some (newS w) := by rw [hs, hS]; exact Heap.get?_push_size _ rfl
  have tS : s.TypeIs (.ref S) "set" := ⟨_, gS, rfl⟩
  refine codeAny_mono (codeAny_call_builtin (R := wants Q E) F.called_set.init.plain F.entry_set_init (check_set_init_1 tS ?_)) fun r s2 h => h
  obtain ⟨ol, hol, hcl, nl, hdl⟩ := hl
  obtain ⟨oc, od, oda, osl⟩ := ol
  simp only at hcl hdl
  subst hcl; subst hdl
  have hlS : l < h0.objs.size := Heap.lt_size hol
  have hol' : s.heap.get? l = some { cls := .type "list", dict := od, data := .seq items nl, slots := osl } := by rw [hs]; exact Heap.get?_push_of_some _ hol
  have n1 := F.sub_list_set
  have n2 := F.sub_list_frozenset
  have n3 : (Value.type "list" == Value.type "dict") = false := by decide
  have hl1 : s.heap.IsList l items := ⟨_, hol', rfl, nl, rfl⟩
  unfold Builtin.«set.__init__» noKeywords Builtin.Frozenset.updateFrom
  generalize hPI : pyIter = PI
  wp_walk
  subst hPI
  refine wpAny_pyIter_list hl1 ?_
  refine wpAny_bind (wpAny_runValue ?_)
  have h3 : A.in1.in1.handled = none := by simp [hh]
  have sz : s.heap.objs.size = h0.objs.size + 1 := by rw [hs, Heap.size_push]
  have nI : l ≠ s.heap.objs.size := by rw [sz]; exact Nat.ne_of_lt (Nat.lt_succ_of_lt hlS)
  have hSf : S ∉ [s.heap.objs.size, l] := by
    rw [sz, hS]
    simp only [List.mem_cons, List.mem_singleton, List.not_mem_nil, or_false, not_or]
    exact ⟨Nat.ne_of_lt (Nat.lt_succ_self _), Nat.ne_of_gt hlS⟩
  refine loop_key ((Walks.list h3 _ l nI items).toS) S hSf val (h0 := h0) hi hb (ledW w) (Rm _ (by simp; try omega)) (by rw [hS]; exact get_ge (Nat.le_refl _)) ?hw (items.size - 0) 0 _ (by omega) (Nat.zero_le _) ?hst ?hkp ?hS0 ?hR
  case hw => intro b hb; rw [List.mem_singleton.mp hb, sz]; exact get_ge (Nat.le_succ _)
  case hkp => intro b o e; exact Heap.get?_push_of_some _ (show s.heap.get? b = some o by rw [hs]; exact Heap.get?_push_of_some _ e)
  case hst => exact ⟨⟨_, Heap.get?_push_size _ rfl, rfl, rfl⟩, hl1.push _⟩
  case hS0 => exact kset_fresh (Heap.get?_push_of_some _ gS)
  intro s' hm hS'
  obtain ⟨h', g', d', tk', os'⟩ := s'
  have eg : g' = s.gens := hm.gens
  have ed : d' = s.drawn := hm.drawn
  have eo : os' = s.os := hm.os
  subst eg; subst ed; subst eo
  show wpAny _ _ _ _ _ _
  refine wpAny_pure ?_
  show wpAny _ _ (ret Value.none) _ _ _
  refine wpAny_pure (q h' tk' hS' fun b o hb e => ?_)
  refine hm.heap b o ?_ (Heap.get?_push_of_some _ (show s.heap.get? b = some o by rw [hs]; exact Heap.get?_push_of_some _ e))
  rw [sz, hS]
  simp only [List.mem_cons, List.mem_singleton, List.not_mem_nil, or_false, not_or]
  exact ⟨Nat.ne_of_lt hb, Nat.ne_of_lt (Nat.lt_succ_of_lt hb)⟩
theorem call_set_key {l : Addr} {items : Array Value} {val : Nat → K} {Q : Value → Shared → Prop} (hh : A.handled = none) (Rm : ∀ B : Around, B.units ≤ A.units + 8 → kd.room B) (hl : s.heap.IsList l items) (hi : ∀ i v, items[i]? = some v → ∃ b, v = Value.ref b ∧ kd.is s.heap (val i) b) (hb : items.size < 76)
    (q : ∀ (h' : Heap) (tk : Nat), KSet kd s.heap h' s.heap.objs.size (ledW w) (metK val items.size) → (∀ b o, b < s.heap.objs.size → s.heap.get? b = some o → h'.get? b = some o) → Q (.ref s.heap.objs.size) { s with heap := h', toks := tk }) :
    wpAny (model P w) A (call (.type "set") [.ref l]) Q E s := by
  obtain ⟨c, tl, hmro⟩ := F.called_set.mro
  have hmade := F.called_set.made
  have hsub := F.called_set.sub
  refine wpAny_call (codeAny_of_tree ?_)
  show wpAny _ _ (callAny (.type "set") _) _ _ _
  refine wpAny_pure ⟨Code.quiet_builtin _ (by decide +kernel), codeAny_builtin F.entry_type_call ?_⟩
  rw [Around.under_plain (weight_type_call_type "set" [.ref l] []) rfl]
  have h1 := F.called_set.notType
  have h2 := F.called_set.canCreate
  have hct := F.typeCall_set_1 (.ref l)
  repeat (any_goals (first | assumption | wp_step))
  refine codeAny_mono (set_new1 (.ref l) (E := E) (Q₁ := fun v s1 => v = .ref s.heap.objs.size ∧ s1 = { s with heap := s.heap.push (newS w) }) ⟨rfl, rfl⟩) fun r s1 hr => ?_
  cases r with
  | error e => exact hr
  | ok fl =>
    cases fl with
    | ret obj =>
      obtain ⟨rfl, rfl⟩ := hr
      have hT : Shared.TypeIs { s with heap := s.heap.push (newS w) } (.ref s.heap.objs.size) "set" := ⟨_, Heap.get?_push_size _ rfl, rfl⟩
      have hli := F.called_set.init.lookup
      have hbi := F.called_set.init.bind (.ref s.heap.objs.size)
      repeat (any_goals (first | assumption | wp_step))
      refine codeAny_mono (set_init_key (h0 := s.heap) (Q := fun v s2 => v = .none ∧ ∃ h' tk, s2 = { s with heap := h', toks := tk } ∧ KSet kd s.heap h' s.heap.objs.size (ledW w) (metK val items.size) ∧ ∀ b o, b < s.heap.objs.size → s.heap.get? b = some o → h'.get? b = some o) (E := E) ?_ ?_ rfl rfl hl hi hb fun h' tk a b => ⟨rfl, h', tk, rfl, a, b⟩) fun r2 s2 hr2 => ?_
      · simp [hh]
      · intro B hB; exact Rm B (by simp at hB; omega)
      · cases r2 with
        | error e => exact hr2
        | ok fl2 =>
          cases fl2 with
          | ret r =>
            obtain ⟨rfl, h', tk, rfl, hS', hk'⟩ := hr2
            repeat (any_goals (first | assumption | wp_step))
            exact q _ _ hS' hk'
          | _ => exact hr2.elim
    | _ => exact hr.elim
theorem collect_key {h0 : Heap} {S : Addr} {ds : List K} {Q : List Value → Shared → Prop} (hh : A.handled = none) (T : KSet kd h0 s.heap S (ledW w) ds) (hb : ds.length < scanBound)
    (q : ∀ (h' : Heap) (d : Drawn) (tk : Nat) (vs : List Value), (∀ b o, s.heap.get? b = some o → h'.get? b = some o) → s.heap.objs.size ≤ h'.objs.size → (∃ zs, Paired (fun v k => ∃ b, v = Value.ref b ∧ kd.is h0 k b) vs zs ∧ zs.Perm ds) → s.toks ≤ tk → Q vs { s with heap := h', drawn := d, toks := tk }) : wpAny (model P w) A (collect (.ref S)) Q E s := by
  obtain ⟨o, es, ep, t, ho, hx, hd, ⟨kes, hel, hp⟩, nd, TO, sz, hl, hpl⟩ := T
  have hf : t.fits es.size = true := by have := TO.fits; simpa using this
  have hsz : es.size = ds.length := by rw [← hp.length_eq, ← Paired.length hel, Array.length_toList]
  have nS : s.heap.objs.size ≠ S := Nat.ne_of_gt (Heap.lt_size ho)
  unfold collect
  refine wpAny_bind (wpAny_runValue (codeAny_builtin F.entry_proto_collect ?_))
  rw [Around.under_plainId F.plain_proto_collect _]
  show wpAny _ A.in1 (newList [] >>= fun l => again (.builtin "list.__iadd__" ⟨[l, .ref S], []⟩)) _ _ s
  refine wpAny_bind (wpAny_newObj_type ?_)
  refine wpAny_pure ⟨plainId_quiet F.plain_list_iadd _, codeAny_builtin F.entry_list_iadd ?_⟩
  rw [Around.under_plainId F.plain_list_iadd _]
  have ho1 : (s.heap.push emL).get? S = some o := Heap.get?_push_of_some _ ho
  show wpAny _ A.in1 (Builtin.List.listExtendWith (.ref s.heap.objs.size) (.ref S) (.ref s.heap.objs.size)) _ _ _
  unfold Builtin.List.listExtendWith
  refine wpAny_bind (wpAny_typeOf (T := "set") ⟨o, ho1, hx.1⟩ ?_)
  have h1 : Builtin.List.listSameRef (.ref s.heap.objs.size) (.ref S) = false := by simp [Builtin.List.listSameRef, nS]
  have h2 : (Value.type "set" == Value.type "list") = false := by decide
  have h3 : (Value.type "set" == Value.type "tuple") = false := by decide
  simp only [h1, h2, h3, Bool.or_false, Bool.false_eq_true, if_false]
  refine wpAny_bind (iter_set (s := { s with heap := s.heap.push emL }) ho1 hx hd hf hl hpl (by omega) fun I h2 d vals fst kp leI it md pt => ?_)
  refine wpAny_bind (wpAny_holding ?_)
  unfold Builtin.List.listLengthHint
  have ho2 := kp _ _ ho1
  refine wpAny_bind (wpAny_specialOf (T := "set") ⟨o, ho2, hx.1⟩ F.slot_set_len.lookup ?_)
  dsimp only
  rw [show splitId "set.__len__" = some ("set", "__len__") by decide +kernel]
  dsimp only
  refine wpAny_bind (wpAny_isInstance (T := "set") (b := true) ⟨o, ho2, hx.1⟩ sub_set_self ?_)
  rw [Bool.not_true, if_neg Bool.false_ne_true]
  refine wp_if (by decide +kernel) ?_
  refine wpAny_bind (wpAny_typeOf (T := "set") ⟨o, ho2, hx.1⟩ ?_)
  refine wpAny_pure ?_
  refine wp_if (by decide +kernel) ?_
  refine wpAny_bind (wpAny_rule ?_)
  have hL2 : h2.get? s.heap.objs.size = some emL := kp _ _ (Heap.get?_push_size _ rfl)
  refine wpAny_bind ?_
  show wpAny _ A.in1 (updateSeq s.heap.objs.size (·.push .none) >>= fun _ => updateSeq s.heap.objs.size (·.pop)) _ _ _
  refine wpAny_bind (wpAny_updateSeq hL2 rfl ?_)
  have hL3 := Heap.get?_update_self (Obj.mapSeq (·.push Value.none)) hL2 rfl
  refine wpAny_updateSeq hL3 rfl ?_
  have hL4 := Heap.get?_update_self (Obj.mapSeq (·.pop)) hL3 rfl
  have oth : ∀ b o, b ≠ s.heap.objs.size → h2.get? b = some o → ((h2.update s.heap.objs.size (Obj.mapSeq (·.push Value.none))).update s.heap.objs.size (Obj.mapSeq (·.pop))).get? b = some o := fun b o nb e => (Heap.get?_update_other _ _ (Ne.symm nb)).trans ((Heap.get?_update_other _ _ (Ne.symm nb)).trans e)
  generalize (h2.update s.heap.objs.size (Obj.mapSeq (·.push Value.none))).update s.heap.objs.size (Obj.mapSeq (·.pop)) = h4 at hL4 oth ⊢
  have leI' : s.heap.objs.size + 1 ≤ I := by
    have : (s.heap.push emL).objs.size ≤ I := leI
    rw [Heap.size_push] at this
    exact this
  have nLI : s.heap.objs.size ≠ I := Nat.ne_of_lt leI'
  have nSI : S ≠ I := Nat.ne_of_lt (Nat.lt_trans (Heap.lt_size ho) leI')
  have ptL : ∀ Pt, fst = .ref Pt → Pt ≠ I ∧ s.heap.objs.size ≠ Pt := fun Pt e => ⟨(pt Pt e).1, by
    have h := (pt Pt e).2
    have h' : (s.heap.push emL).objs.size ≤ Pt := h
    rw [Heap.size_push] at h'
    exact Nat.ne_of_lt h'⟩
  have hI : I ∈ fpS I S fst := by cases fst <;> simp [fpS]
  have hS : S ∈ fpS I S fst := by cases fst <;> simp [fpS]
  have hL : s.heap.objs.size ∉ fpS I S fst := by
    cases fst with
    | ref Pt => simp only [fpS, List.mem_cons, List.not_mem_nil, or_false, not_or]; exact ⟨nLI, nS, (ptL Pt rfl).2⟩
    | _ => simp only [fpS, List.mem_cons, List.not_mem_nil, or_false, not_or]; exact ⟨nLI, nS⟩
  have st2 : SSt w I S o es ep t vals (fpS I S fst) 0 h2 fst := ⟨it, ho2, md, fun Pt e => ⟨by rw [e]; simp [fpS], (ptL Pt e).1⟩⟩
  have st4 := st2.at (h' := h4) hI hS fun b hb o e => oth b o (fun z => hL (by rw [← z]; exact hb)) e
  have W := walk_set (P := P) (w := w) (A := A.in1) (vals := vals) (by simp [hh]) nSI hI hS hd hf
  refine wpAny_pure ⟨plainId_quiet F.plain_extend_loop _, codeAny_extend_loopS W (fits_of_scanBound (by omega)) _ hL _ es.size 0 _ _ _ rfl (Nat.zero_le _) ⟨fst, st4⟩ hL4 (ItemsOf.nil _) fun s' acc c' hm hS' hacc => ?_⟩
  show wpAny _ A (load s.heap.objs.size >>= _) _ _ s'
  refine wpAny_bind (wpAny_load hS' ?_)
  obtain ⟨h', g', d', tk', os'⟩ := s'
  have eg : g' = s.gens := hm.gens
  have ed : d' = d := hm.drawn
  have eo : os' = s.os := hm.os
  subst eg; subst ed; subst eo
  have lv : vals.length = es.size := by rw [md.perm.length_eq, List.length_map, Array.length_toList]
  have ea : acc.toList = vals := by
    refine List.ext_getElem? fun j => ?_
    by_cases c : j < es.size
    · have h1 : acc[j]? = some (acc[j]'(by rw [hacc.1]; exact c)) := Array.getElem?_eq_getElem _
      rw [Array.getElem?_toList, h1]
      exact (hacc.2 j _ h1).symm
    · rw [List.getElem?_eq_none (by rw [Array.length_toList, hacc.1]; omega), List.getElem?_eq_none (by omega)]
  refine wpAny_pure (q h' d' tk' acc.toList (fun b o e => ?_) (Nat.le_of_lt (Heap.lt_size hS')) ?_ hm.toks)
  · have lb := Heap.lt_size e
    refine hm.heap b o ?_ (oth b o (Nat.ne_of_lt lb) (kp b o (Heap.get?_push_of_some _ e)))
    simp only [List.mem_cons, List.not_mem_nil, or_false, not_or]
    exact ⟨Nat.ne_of_lt lb, Nat.ne_of_lt (Nat.lt_trans lb leI')⟩
  · rw [ea]
    have pv : ∀ {l : List (Int × Value)} {m : List K}, Paired (El kd h0) l m → Paired (fun v k => ∃ b, v = Value.ref b ∧ kd.is h0 k b) (l.map (·.2)) m := by
      intro l m h
      induction h with
      | nil => exact .nil
      | cons a _ ih =>
        obtain ⟨b, e, i⟩ := a
        exact .cons ⟨b, by rw [e], i⟩ ih
    obtain ⟨zs, z1, z2⟩ := paired_perm md.perm (pv hel)
    exact ⟨zs, z1, z2.trans hp⟩
end
end ST
namespace ST
open PySem PySem.Spec PyProof.Rows L2
abbrev TK := Int × Str × List Key
section
variable {P : Program} {w : World}
def IsTK (P : Program) (w : World) (h : Heap) (k : TK) (a : Addr) : Prop := ∃ o t u b n, h.get? a = some o ∧ o.cls = .type "tuple" ∧ o.data = .seq #[.int k.1 t, .str k.2.1 u, .ref b] n ∧ IsTupleKey (mixKind P w) h k.2.2 b
theorem IsTK.inj {h : Heap} {a : Addr} {x y : TK} (hx : IsTK P w h x a) (hy : IsTK P w h y a) : x = y := by
  obtain ⟨o, t, u, b, n, h1, h2, h3, h4⟩ := hx
  obtain ⟨o', t', u', b', n', h1', h2', h3', h4'⟩ := hy
  rw [h1] at h1'
  cases h1'
  rw [h3] at h3'
  injection h3' with e1 e2
  simp only [Array.mk.injEq, List.cons.injEq, Value.int.injEq, Value.str.injEq, Value.ref.injEq, and_true] at e1
  obtain ⟨⟨e3, _⟩, ⟨e4, _⟩, e5⟩ := e1
  subst e5
  obtain ⟨x1, x2, x3⟩ := x
  obtain ⟨y1, y2, y3⟩ := y
  have := IsTupleKey.inj h4 h4'
  simp only at e3 e4 this
  rw [e3, e4, this]
theorem IsTK.keeps {h h' : Heap} {k : TK} {a : Addr} (x : IsTK P w h k a) (kp : Keep h h') : IsTK P w h' k a := by
  obtain ⟨o, t, u, b, n, h1, h2, h3, o', its, n', h4, h5, h6, h7⟩ := x
  exact ⟨o, t, u, b, n, kp _ _ h1, h2, h3, o', its, n', kp _ _ h4, h5, h6, h7⟩
theorem IsTK.typeIs {s : Shared} {k : TK} {a : Addr} (x : IsTK P w s.heap k a) : s.TypeIs (.ref a) "tuple" := let ⟨o, _, _, _, _, ho, hc, _⟩ := x; ⟨o, ho, hc⟩
def tkHash (P : Program) (w : World) (k : TK) : Int := reduceHash (Builtin.Tuple.tupleHashOf [(mixKind P w).hash (.inl k.1), (mixKind P w).hash (.inr k.2.1), tupleKeyHash (mixKind P w) k.2.2])
variable {A : Around} {E : Value → Shared → Prop} {s : Shared}
theorem tk_hash {k : TK} {a : Addr} {Q : Int → Shared → Prop} (hu : A.units + 4 < cLine) (hk : IsTK P w s.heap k a) (h : Q (tkHash P w k) { s with toks := s.toks + (k.2.2.length + 4) }) :
    wpAny (model P w) A (pyHash (.ref a)) Q E s := by
  have hT := hk.typeIs
  obtain ⟨o, t, u, b, n, ho, _, hd, hi⟩ := hk
  unfold pyHash
  first | unfold pyHashByItsType | skip
  first | refine wpAny_bind (wpAny_cRoomFor_or (.inr (by omega)) ?_) | skip
  refine wpAny_bind (wpAny_specialOf hT F.slot_tuple_hash.lookup ?_)
  show wpAny _ _ (if (some (Value.builtin "tuple.__hash__") == some Value.none) = true then _ else _) Q E s
  rw [if_neg (by rw [beq_builtin_none]; exact Bool.false_ne_true)]
  refine wpAny_bind (wpAny_specialOf hT F.slot_tuple_hash.lookup ?_)
  show wpAny _ _ (callSpecialIfBoundUnlessNone? (.ref a) "__hash__" _ >>= _) Q E s
  refine wpAny_bind (wpAny_callSpecialIfBoundUnlessNone?_slot hT F.slot_tuple_hash (wpAny_call_entry F.slot_tuple_hash hT F.entry_tuple_hash ?_ (F.args_tuple_hash_1 _)))
  show wpAny _ _ (Builtin.Tuple.tupleItemsOf (.ref a) >>= _) _ _ s
  refine wpAny_bind (wpAny_tupleItemsOf ho hd ?_)
  refine wpAny_bind ?_
  rw [← Array.forIn_toList]
  simp only [List.forIn_cons, List.forIn_nil]
  refine wpAny_bind (wpAny_bind ((mixKind P w).pyHash (k := .inl k.1) (mixKind_int P w _ _) ?_))
  refine wpAny_pure ?_
  dsimp only
  refine wpAny_bind (wpAny_bind ((mixKind P w).pyHash (k := .inr k.2.1) (mixKind_str P w _ _) ?_))
  refine wpAny_pure ?_
  dsimp only
  refine wpAny_bind (wpAny_bind (wpAny_pyHash_tuple (by simp; try omega) hi ?_))
  refine wpAny_pure ?_
  dsimp only
  refine wpAny_pure ?_
  show wpAny _ _ (retInt (Builtin.Tuple.tupleHashOf [(mixKind P w).hash (.inl k.1), (mixKind P w).hash (.inr k.2.1), tupleKeyHash (mixKind P w) k.2.2])) _ _ _
  refine wpAny_ret_mkInt ?_
  unfold tkHash reduceHash at h
  generalize Builtin.Tuple.tupleHashOf [(mixKind P w).hash (.inl k.1), (mixKind P w).hash (.inr k.2.1), tupleKeyHash (mixKind P w) k.2.2] = z at h ⊢
  show wpAny _ _ (if (decide (-(2 : Int) ^ 63 ≤ z) && decide (z < 2 ^ 63)) = true then _ else _) Q E _
  by_cases hr : (decide (-(2 : Int) ^ 63 ≤ z) && decide (z < 2 ^ 63)) = true
  · rw [if_pos hr]
    rw [if_pos hr] at h
    exact wpAny_pure (by simpa [Nat.add_assoc, Nat.add_comm, Nat.add_left_comm] using h)
  · rw [if_neg hr]
    rw [if_neg hr] at h
    exact wpAny_bind (wpAny_rule (wpAny_pure (by simpa [Nat.add_assoc, Nat.add_comm, Nat.add_left_comm] using h)))
theorem tk_eq {x y : TK} {a b : Addr} {Q : Bool → Shared → Prop} (hu : A.units + 4 < cLine) (hx : IsTK P w s.heap x a) (hy : IsTK P w s.heap y b) (h : Q (decide (x = y)) s) : wpAny (model P w) A (eqBool (.ref a) (.ref b)) Q E s := by
  by_cases hab : a = b
  · subst hab
    obtain rfl := hx.inj hy
    rw [decide_eq_true rfl] at h
    exact SeqAt.EqAt.same (.ref a) P w E Q h
  obtain ⟨o, t, u, c, n, h1, h2, h3, h4⟩ := hx
  obtain ⟨o', t', u', c', n', h1', h2', h3', h4'⟩ := hy
  unfold eqBool
  try with_reducible refine wpAny_holding ?_
  show wpAny _ _ (if (Value.ref a == Value.ref b) = true then _ else _) Q E s
  rw [if_neg (by intro z; exact hab (by have := eq_of_beq z; injection this))]
  have hxt : s.TypeIs (.ref a) "tuple" := ⟨o, h1, h2⟩
  have hyt : s.TypeIs (.ref b) "tuple" := ⟨o', h1', h2'⟩
  refine wpAny_bind (wpAny_richCompare_same_room (op := .Eq) hxt hyt F.slot_tuple_eq
      (wpAny_call_entry F.slot_tuple_eq hxt F.entry_tuple_eq ?_ (F.args_tuple_eq_2 _ _)) (by omega))
  show wpAny _ _ (isInstance (.ref b) (.type "tuple") >>= _) _ _ s
  refine wpAny_bind (wpAny_isInstance hyt isSubtype_tuple_tuple ?_)
  simp only [Bool.not_true, Bool.false_eq_true, if_false]
  refine wpAny_bind (wpAny_tupleItemsOf h1 h3 ?_)
  refine wpAny_bind (wpAny_tupleItemsOf h1' h3' ?_)
  refine wpAny_bind ?_
  show wpAny _ _ (forIn [(Value.int x.1 t, Value.int y.1 t'), (Value.str x.2.1 u, Value.str y.2.1 u'), (Value.ref c, Value.ref c')] _ _) _ _ _
  obtain ⟨x1, x2, x3⟩ := x
  obtain ⟨y1, y2, y3⟩ := y
  have fin : ∀ v : Bool, v = decide ((x1, x2, x3) = (y1, y2, y3)) → Q v s := fun v e => by rw [e]; exact h
  simp only [List.forIn_cons, List.forIn_nil]
  refine wpAny_bind (wpAny_bind (SeqAt.EqAt.int_int x1 t y1 t' P w _ _ ?_))
  by_cases e1 : x1 = y1
  · rw [show (x1 == y1) = true by simp [e1]]
    simp only [Bool.not_true, Bool.false_eq_true, if_false]
    refine wpAny_pure ?_
    dsimp only
    refine wpAny_bind (wpAny_bind (SeqAt.EqAt.str_str x2 u y2 u' P w _ _ ?_))
    by_cases e2 : x2 = y2
    · rw [show (x2 == y2) = true by simp [e2]]
      simp only [Bool.not_true, Bool.false_eq_true, if_false]
      refine wpAny_pure ?_
      dsimp only
      refine wpAny_bind (wpAny_bind (wpAny_eqBool_tuple (by simp; try omega) h4 h4' ?_))
      by_cases e3 : x3 = y3
      · rw [decide_eq_true e3]
        simp only [Bool.not_true, Bool.false_eq_true, if_false]
        refine wpAny_pure ?_
        dsimp only
        refine wpAny_pure ?_
        exact wpAny_pure ⟨_, rfl, (fun e => nomatch e), wpAny_truthy_bool (fin _ (by rw [e1, e2, e3]; simp))⟩
      · rw [decide_eq_false e3]
        simp only [Bool.not_false, if_true]
        refine wpAny_pure ?_
        dsimp only
        refine wpAny_pure ?_
        exact wpAny_pure ⟨_, rfl, (fun e => nomatch e), wpAny_truthy_bool (fin _ (by simp [e3]))⟩
    · rw [show (x2 == y2) = false by simp [e2]]
      simp only [Bool.not_false, if_true]
      refine wpAny_pure ?_
      dsimp only
      refine wpAny_pure ?_
      exact wpAny_pure ⟨_, rfl, (fun e => nomatch e), wpAny_truthy_bool (fin _ (by simp [e2]))⟩
  · rw [show (x1 == y1) = false by simp [e1]]
    simp only [Bool.not_false, if_true]
    refine wpAny_pure ?_
    dsimp only
    refine wpAny_pure ?_
    exact wpAny_pure ⟨_, rfl, (fun e => nomatch e), wpAny_truthy_bool (fin _ (by simp [e1]))⟩
theorem tk_quiet {k : TK} {a : Addr} {Q : Bool → Shared → Prop} (hk : IsTK P w s.heap k a) (h : Q true s) : wpAny (model P w) A (eqIsQuiet 8 (.ref a)) Q E s := by
  have hT := hk.typeIs
  obtain ⟨o, t, u, b, n, h1, h2, h3, h4⟩ := hk
  have in7 : ∀ Q' : Bool → Shared → Prop, Q' true s → wpAny (model P w) A (eqIsQuiet 7 (.ref b)) Q' E s := fun Q' q' => by
    have hT2 := h4.typeIs
    obtain ⟨o, items, n, ho, _, hd, hi⟩ := h4
    unfold eqIsQuiet
    refine wpAny_bind (wpAny_specialOf hT2 F.slot_tuple_eq.lookup ?_)
    show wpAny _ _ (isInstance (.ref b) (.type "tuple") >>= _) _ _ s
    refine wpAny_bind (wpAny_isInstance hT2 isSubtype_tuple_tuple ?_)
    simp only [Bool.not_true, Bool.false_eq_true, if_false]
    refine wpAny_bind (wpAny_seqItems ho hd ?_)
    refine wpAny_bind ?_
    show wpAny _ _ (forIn items _ _) _ _ s
    rw [← Array.forIn_toList]
    refine wpAny_forIn_list _ (fun rest r s' => r.1 = none ∧ s' = s ∧ ∀ v ∈ rest, carriedByValue v = true) _ ?_ ?_ _ _ ⟨rfl, rfl, hi.byValue⟩
    · rintro v rest r s' ⟨hr, rfl, hall⟩
      rw [eqIsQuiet_byValue _ (hall v List.mem_cons_self)]
      refine wpAny_bind (wpAny_pure ?_)
      simp only [Bool.not_true, Bool.false_eq_true, if_false]
      exact wpAny_pure ⟨rfl, rfl, fun u hu' => hall u (List.mem_cons_of_mem _ hu')⟩
    · rintro ⟨r1, r2⟩ s' ⟨hr, rfl, _⟩
      simp only at hr
      subst hr
      exact wpAny_pure q'
  unfold eqIsQuiet
  refine wpAny_bind (wpAny_specialOf hT F.slot_tuple_eq.lookup ?_)
  show wpAny _ _ (isInstance (.ref a) (.type "tuple") >>= _) _ _ s
  refine wpAny_bind (wpAny_isInstance hT isSubtype_tuple_tuple ?_)
  simp only [Bool.not_true, Bool.false_eq_true, if_false]
  refine wpAny_bind (wpAny_seqItems h1 h3 ?_)
  refine wpAny_bind ?_
  show wpAny _ _ (forIn (#[.int k.1 t, .str k.2.1 u, .ref b] : Array Value) _ _) _ _ s
  rw [← Array.forIn_toList]
  simp only [List.forIn_cons, List.forIn_nil]
  rw [eqIsQuiet_byValue _ (show carriedByValue (.int k.1 t) = true from rfl), eqIsQuiet_byValue _ (show carriedByValue (.str k.2.1 u) = true from rfl)]
  refine wpAny_bind (wpAny_bind (wpAny_pure ?_))
  simp only [Bool.not_true, Bool.false_eq_true, if_false]
  refine wpAny_pure ?_
  dsimp only
  refine wpAny_bind (wpAny_bind (wpAny_pure ?_))
  simp only [Bool.not_true, Bool.false_eq_true, if_false]
  refine wpAny_pure ?_
  dsimp only
  refine wpAny_bind (wpAny_bind (in7 _ ?_))
  simp only [Bool.not_true, Bool.false_eq_true, if_false]
  refine wpAny_pure ?_
  dsimp only
  refine wpAny_pure ?_
  exact wpAny_pure h
theorem cls_byValue (n : Nat) {v : Value} (h : carriedByValue v = true) : ofAClassStatement n v = pure false := by
  cases v with
  | ref a => simp [carriedByValue] at h
  | _ => unfold ofAClassStatement; rfl
theorem tk_noCls {k : TK} {a : Addr} {Q : Bool → Shared → Prop} (hk : IsTK P w s.heap k a) (h : Q false s) : wpAny (model P w) A (ofAClassStatement 8 (.ref a)) Q E s := by
  have hT := hk.typeIs
  obtain ⟨o, t, u, b, n, h1, h2, h3, h4⟩ := hk
  have in7 : ∀ Q' : Bool → Shared → Prop, Q' false s → wpAny (model P w) A (ofAClassStatement 7 (.ref b)) Q' E s := fun Q' q' => by
    have hT2 := h4.typeIs
    obtain ⟨o, items, n, ho, _, hd, hi⟩ := h4
    unfold ofAClassStatement
    refine wpAny_bind (wpAny_typeOf hT2 ?_)
    dsimp only
    simp only [show ("tuple" == "tuple") = true by decide, if_true]
    refine wpAny_bind (wpAny_pure ?_)
    simp only [Bool.not_true, Bool.false_eq_true, if_false]
    refine wpAny_bind (wpAny_seqItems ho hd ?_)
    dsimp only
    refine wpAny_bind ?_
    rw [← Array.forIn_toList]
    refine wpAny_forIn_list _ (fun rest r s' => r.1 = none ∧ s' = s ∧ ∀ v ∈ rest, carriedByValue v = true) _ ?_ ?_ _ _ ⟨rfl, rfl, hi.byValue⟩
    · rintro v rest r s' ⟨hr, rfl, hall⟩
      rw [cls_byValue _ (hall v List.mem_cons_self)]
      refine wpAny_bind (wpAny_pure ?_)
      simp only [Bool.false_eq_true, if_false]
      exact wpAny_pure ⟨rfl, rfl, fun u hu' => hall u (List.mem_cons_of_mem _ hu')⟩
    · rintro ⟨r1, r2⟩ s' ⟨hr, rfl, _⟩
      simp only at hr
      subst hr
      exact wpAny_pure q'
  unfold ofAClassStatement
  refine wpAny_bind (wpAny_typeOf hT ?_)
  dsimp only
  simp only [show ("tuple" == "tuple") = true by decide, if_true]
  refine wpAny_bind (wpAny_pure ?_)
  simp only [Bool.not_true, Bool.false_eq_true, if_false]
  refine wpAny_bind (wpAny_seqItems h1 h3 ?_)
  dsimp only
  refine wpAny_bind ?_
  rw [← Array.forIn_toList]
  simp only [List.forIn_cons, List.forIn_nil]
  rw [cls_byValue _ (show carriedByValue (.int k.1 t) = true from rfl), cls_byValue _ (show carriedByValue (.str k.2.1 u) = true from rfl)]
  refine wpAny_bind (wpAny_bind (wpAny_pure ?_))
  simp only [Bool.false_eq_true, if_false]
  refine wpAny_pure ?_
  dsimp only
  refine wpAny_bind (wpAny_bind (wpAny_pure ?_))
  simp only [Bool.false_eq_true, if_false]
  refine wpAny_pure ?_
  dsimp only
  refine wpAny_bind (wpAny_bind (in7 _ ?_))
  simp only [Bool.false_eq_true, if_false]
  refine wpAny_pure ?_
  dsimp only
  refine wpAny_pure ?_
  exact wpAny_pure h
theorem tk_byVal {k : TK} {a : Addr} {Q : Bool → Shared → Prop} (hk : IsTK P w s.heap k a) (h : Q false s) : wpAny (model P w) A (hashByValue 8 (.ref a)) Q E s := by
  have hT := hk.typeIs
  obtain ⟨o, t, u, b, n, h1, h2, h3, h4⟩ := hk
  unfold hashByValue
  refine wpAny_bind (wpAny_specialOf hT F.slot_tuple_hash.lookup ?_)
  dsimp only
  refine wpAny_bind (wpAny_seqItems h1 h3 ?_)
  dsimp only [Option.getD]
  refine wpAny_bind ?_
  rw [← Array.forIn_toList]
  simp only [List.forIn_cons, List.forIn_nil]
  rw [show hashByValue 7 (.int k.1 t) = pure true by unfold hashByValue; rfl, show hashByValue 7 (.str k.2.1 u) = pure false by unfold hashByValue; rfl]
  refine wpAny_bind (wpAny_bind (wpAny_pure ?_))
  simp only [Bool.not_true, Bool.false_eq_true, if_false]
  refine wpAny_pure ?_
  dsimp only
  refine wpAny_bind (wpAny_bind (wpAny_pure ?_))
  simp only [Bool.not_false, if_true]
  refine wpAny_pure ?_
  dsimp only
  refine wpAny_pure ?_
  exact wpAny_pure h
end
end ST
namespace L2
open PySem PySem.W PyProof.Rows
section
variable {n : Nat} {lt : Nat → Nat → Bool} {cmp : Nat → Nat → (Bool → Shared → Prop) → Shared → Prop} {s : Shared}
structure OrdN (n : Nat) (lt : Nat → Nat → Bool) : Prop where
  trans : ∀ a b c, a < n → b < n → c < n → lt b a = false → lt c b = false → lt c a = false
  asym : ∀ a b, a < n → b < n → lt a b = true → lt b a = false
def AsksN (n : Nat) (lt : Nat → Nat → Bool) (cmp : Nat → Nat → (Bool → Shared → Prop) → Shared → Prop) (s : Shared) : Prop := ∀ i j C, i < n → j < n → C (lt i j) s → cmp i j C s
structure PmN (n : Nat) (p : Array Nat) : Prop where
  pm : p.Perm (List.range n).toArray
theorem PmN.size {p : Array Nat} (h : PmN n p) : p.size = n := by
  have := h.pm.size_eq
  simpa using this
theorem PmN.inn {p : Array Nat} (h : PmN n p) {i : Nat} (hi : i < n) : p.getD i 0 < n := by
  have hs := h.size
  have e : p.getD i 0 = p[i]'(by omega) := by simp [Array.getD, hs, hi]
  rw [e]
  have : p[i]'(by omega) ∈ (List.range n).toArray := h.pm.mem_iff.mp (Array.getElem_mem _)
  simpa using this
abbrev at_ (p : Array Nat) (i : Nat) : Nat := p.getD i 0
def SrtN (lt : Nat → Nat → Bool) (p : Array Nat) (k : Nat) : Prop := ∀ i j, i ≤ j → j < k → lt (at_ p j) (at_ p i) = false
def NonN (lt : Nat → Nat → Bool) (p : Array Nat) (k : Nat) : Prop := ∀ i j, i ≤ j → j < k → lt (at_ p i) (at_ p j) = false
theorem OrdN.irr (o : OrdN n lt) {a : Nat} (h : a < n) : lt a a = false := by
  cases e : lt a a with
  | false => rfl
  | true => rw [← o.asym a a h h e, e]
theorem kas_ret {α : Type} {a : α} {Q : α → Shared → Prop} (h : Q a s) : KasT.kasWp cmp (.ret a) Q s := h
theorem kas_askN {α : Type} {i j : Nat} {k : Bool → KasT α} {Q : α → Shared → Prop} (A : AsksN n lt cmp s) (hi : i < n) (hj : j < n) (h : KasT.kasWp cmp (k (lt i j)) Q s) : KasT.kasWp cmp (.ask i j k) Q s := A i j _ hi hj h
theorem kas_bindN {α β : Type} {t : KasT α} {f : α → KasT β} {Q : β → Shared → Prop} : ∀ {s : Shared}, KasT.kasWp cmp t (fun a s' => KasT.kasWp cmp (f a) Q s') s → KasT.kasWp cmp (t.bind f) Q s := by
  have key : ∀ t : KasT α, KasT.kasWp cmp (t.bind f) Q = KasT.kasWp cmp t (fun a s' => KasT.kasWp cmp (f a) Q s') := by
    intro t
    induction t with
    | ret a => rfl
    | ask i j k ih =>
      funext s
      show cmp i j (fun c s' => KasT.kasWp cmp ((k c).bind f) Q s') s = cmp i j (fun c s' => KasT.kasWp cmp (k c) _ s') s
      congr 1
      funext c s'
      rw [ih c]
  intro s h
  rw [key]
  exact h
theorem at_eq (p : Array Nat) (i : Nat) : at_ p i = (p[i]?).getD 0 := Array.getD_eq_getD_getElem?
theorem at_mirror {p : Array Nat} {i j k : Nat} (hj : j ≤ p.size) : at_ (kas_rev p i j) k = if i ≤ k ∧ k < j then at_ p (i + j - 1 - k) else at_ p k := by
  have h := getElem?_mirror_all (xs := p) (i := i) hj k
  have e : at_ (kas_rev p i j) k = ((mirror p i j ((j - i) / 2))[k]?).getD 0 := at_eq _ _
  rw [e, h, at_eq, at_eq]
  split <;> rfl
theorem at_bubble {p : Array Nat} {src d k : Nat} (hs : src < p.size) (hd : d ≤ src) : at_ (bubble p src d) k = if k = src - d then at_ p src else if src - d < k ∧ k ≤ src then at_ p (k - 1) else at_ p k := by
  have h := getElem?_bubble (xs := p) hs d hd k
  rw [at_eq, h, at_eq, at_eq, at_eq]
  by_cases c : k = src - d
  · rw [if_pos c, if_pos c]
  · rw [if_neg c, if_neg c]
    by_cases c2 : src - d < k ∧ k ≤ src
    · rw [if_pos c2, if_pos c2]
    · rw [if_neg c2, if_neg c2]
theorem PmN.rev {p : Array Nat} (h : PmN n p) (i j : Nat) : PmN n (kas_rev p i j) := ⟨(mirror_perm p i j _).trans h.pm⟩
theorem PmN.bub {p : Array Nat} (h : PmN n p) (i j : Nat) : PmN n (bubble p i j) := ⟨(bubble_perm p i j).trans h.pm⟩
theorem SrtN.more {p : Array Nat} {m : Nat} (o : OrdN n lt) (P : PmN n p) (h : SrtN lt p m) (hm : 1 ≤ m) (hn : m < n) (c : lt (at_ p m) (at_ p (m - 1)) = false) : SrtN lt p (m + 1) := by
  intro i j hij hj
  by_cases e : j = m
  · subst e
    by_cases e2 : i = j
    · subst e2; exact o.irr (P.inn hn)
    · exact o.trans _ (at_ p (j - 1)) _ (P.inn (by omega)) (P.inn (by omega)) (P.inn hn) (h i (j - 1) (by omega) (by omega)) c
  · exact h i j hij (by omega)
theorem NonN.more {p : Array Nat} {m : Nat} (o : OrdN n lt) (P : PmN n p) (h : NonN lt p m) (hm : 1 ≤ m) (hn : m < n) (c : lt (at_ p (m - 1)) (at_ p m) = false) : NonN lt p (m + 1) := by
  intro i j hij hj
  by_cases e : j = m
  · subst e
    by_cases e2 : i = j
    · subst e2; exact o.irr (P.inn hn)
    · exact o.trans _ (at_ p (j - 1)) _ (P.inn hn) (P.inn (by omega)) (P.inn (by omega)) c (h i (j - 1) (by omega) (by omega))
  · exact h i j hij (by omega)
theorem asc_ok (o : OrdN n lt) (A : AsksN n lt cmp s) {p : Array Nat} (P : PmN n p) {Q : Nat → Shared → Prop} : ∀ (f m : Nat), 1 ≤ m → m + f ≤ n → SrtN lt p m → (∀ m', m ≤ m' → m' ≤ m + f → SrtN lt p m' → (m' = m + f ∨ lt (at_ p m') (at_ p (m' - 1)) = true) → Q m' s) → KasT.kasWp cmp (kas_asc p f m) Q s
  | 0, m, h1, h2, hs, q => kas_ret (q m (Nat.le_refl _) (Nat.le_refl _) hs (.inl rfl))
  | f + 1, m, h1, h2, hs, q => by
    rw [kas_asc.eq_2]
    refine kas_askN A (P.inn (by omega)) (P.inn (by omega)) ?_
    cases c : lt (at_ p m) (at_ p (m - 1)) with
    | true =>
      show KasT.kasWp cmp (if true = true then _ else _) Q s
      rw [if_pos rfl]
      exact kas_ret (q m (Nat.le_refl _) (by omega) hs (.inr c))
    | false =>
      show KasT.kasWp cmp (if false = true then _ else _) Q s
      rw [if_neg Bool.false_ne_true]
      exact asc_ok o A P f (m + 1) (by omega) (by omega) (hs.more o P h1 (by omega) c) fun m' a b d e => q m' (by omega) (by omega) d (by rcases e with e | e; exact .inl (by omega); exact .inr e)
def EqN (lt : Nat → Nat → Bool) (p : Array Nat) (m q : Nat) : Prop := ∀ k, m - (q + 1) ≤ k → k < m → lt (at_ p k) (at_ p (m - 1)) = false ∧ lt (at_ p (m - 1)) (at_ p k) = false
theorem rev_non {p : Array Nat} {m q : Nat} (o : OrdN n lt) (P : PmN n p) (hm : m ≤ n) (h : NonN lt p m) (e : EqN lt p m q) : NonN lt (kas_rev p (m - (q + 1)) m) m := by
  intro i j hij hj
  have hs := P.size
  rw [at_mirror (by omega), at_mirror (by omega)]
  by_cases cj : m - (q + 1) ≤ j ∧ j < m
  · rw [if_pos cj]
    by_cases ci : m - (q + 1) ≤ i ∧ i < m
    · rw [if_pos ci]
      have e1 := e (m - (q + 1) + m - 1 - i) (by omega) (by omega)
      have e2 := e (m - (q + 1) + m - 1 - j) (by omega) (by omega)
      exact o.trans _ (at_ p (m - 1)) _ (P.inn (by omega)) (P.inn (by omega)) (P.inn (by omega)) e2.2 e1.1
    · rw [if_neg ci]
      exact h i _ (by omega) (by omega)
  · rw [if_neg cj, if_neg (by omega)]
    exact h i j hij hj
theorem desc_ok (o : OrdN n lt) (A : AsksN n lt cmp s) {Q : Array Nat × Nat × Nat → Shared → Prop} : ∀ (f : Nat) (p : Array Nat) (m q : Nat), PmN n p → 1 ≤ m → m + f ≤ n → NonN lt p m → EqN lt p m q → q + 1 ≤ m → (∀ p' m' q', PmN n p' → m ≤ m' → m' ≤ m + f → NonN lt p' m' → EqN lt p' m' q' → q' + 1 ≤ m' → Q (p', m', q') s) → KasT.kasWp cmp (kas_desc f p m q) Q s
  | 0, p, m, q, P, h1, h2, hn, he, hq, k => by
    rw [kas_desc.eq_1]
    exact kas_ret (k p m q P (Nat.le_refl _) (Nat.le_refl _) hn he hq)
  | f + 1, p, m, q, P, h1, h2, hn, he, hq, k => by
    rw [kas_desc.eq_2]
    have hs := P.size
    refine kas_askN A (P.inn (by omega)) (P.inn (by omega)) ?_
    cases c : lt (at_ p m) (at_ p (m - 1)) with
    | true =>
      show KasT.kasWp cmp (if true = true then _ else _) Q s
      rw [if_pos rfl]
      have c2 := o.asym _ _ (P.inn (by omega)) (P.inn (by omega)) c
      have one : ∀ p', EqN lt p' (m + 1) 0 → True := fun _ _ => trivial
      by_cases hq0 : q > 0
      · rw [if_pos hq0]
        have P' := P.rev (m - (q + 1)) m
        have e1 : at_ (kas_rev p (m - (q + 1)) m) m = at_ p m := by rw [at_mirror (by omega), if_neg (by omega)]
        have e2 : at_ (kas_rev p (m - (q + 1)) m) (m - 1) = at_ p (m - (q + 1)) := by
          rw [at_mirror (by omega), if_pos (by omega)]
          congr 1
          omega
        refine desc_ok o A f _ (m + 1) 0 P' (by omega) (by omega) ((rev_non o P (by omega) hn he).more o P' h1 (by omega) ?_) ?_ (by omega) fun p' m' q' a b d g i j => k p' m' q' a (by omega) (by omega) g i j
        · rw [e1, e2]
          exact o.trans _ (at_ p (m - 1)) _ (P.inn (by omega)) (P.inn (by omega)) (P.inn (by omega)) c2 (he (m - (q + 1)) (Nat.le_refl _) (by omega)).1
        · intro x h3 h4
          have : x = m := by omega
          subst this
          exact ⟨o.irr (P'.inn (by omega)), o.irr (P'.inn (by omega))⟩
      · rw [if_neg hq0]
        refine desc_ok o A f p (m + 1) 0 P (by omega) (by omega) (hn.more o P h1 (by omega) c2) ?_ (by omega) fun p' m' q' a b d g i j => k p' m' q' a (by omega) (by omega) g i j
        intro x h3 h4
        have : x = m := by omega
        subst this
        exact ⟨o.irr (P.inn (by omega)), o.irr (P.inn (by omega))⟩
    | false =>
      show KasT.kasWp cmp (if false = true then _ else _) Q s
      rw [if_neg Bool.false_ne_true]
      refine kas_askN A (P.inn (by omega)) (P.inn (by omega)) ?_
      cases c2 : lt (at_ p (m - 1)) (at_ p m) with
      | true =>
        show KasT.kasWp cmp (if true = true then _ else _) Q s
        rw [if_pos rfl]
        exact kas_ret (k p m q P (Nat.le_refl _) (by omega) hn he hq)
      | false =>
        show KasT.kasWp cmp (if false = true then _ else _) Q s
        rw [if_neg Bool.false_ne_true]
        refine desc_ok o A f p (m + 1) (q + 1) P (by omega) (by omega) (hn.more o P h1 (by omega) c2) ?_ (by omega) fun p' m' q' a b d g i j => k p' m' q' a (by omega) (by omega) g i j
        intro x h3 h4
        have em : m + 1 - 1 = m := by omega
        rw [em]
        by_cases ex : x = m
        · subst ex
          exact ⟨o.irr (P.inn (by omega)), o.irr (P.inn (by omega))⟩
        · have e1 := he x (by omega) (by omega)
          exact ⟨o.trans _ (at_ p (m - 1)) _ (P.inn (by omega)) (P.inn (by omega)) (P.inn (by omega)) c2 e1.1, o.trans _ (at_ p (m - 1)) _ (P.inn (by omega)) (P.inn (by omega)) (P.inn (by omega)) e1.2 c⟩
theorem tail3_ok (o : OrdN n lt) (A : AsksN n lt cmp s) {p : Array Nat} {m nrem : Nat} {Q : Nat × Array Nat → Shared → Prop} (P : PmN n p) (h1 : 1 ≤ m) (h2 : m ≤ nrem) (h3 : nrem ≤ n) (hn : NonN lt p m) (q : ∀ m' p', PmN n p' → 1 ≤ m' → m' ≤ nrem → SrtN lt p' m' → Q (m', p') s) : KasT.kasWp cmp (kas_tail3 m nrem p) Q s := by
  have hs := P.size
  have P' := P.rev 0 m
  unfold kas_tail3
  refine kas_bindN (asc_ok o A P' (nrem - m) m h1 (by omega) ?_ fun m' a b c d => kas_ret (q m' _ P' (by omega) (by omega) c))
  intro i j hij hj
  rw [at_mirror (by omega), at_mirror (by omega), if_pos (by omega), if_pos (by omega)]
  exact hn _ _ (by omega) (by omega)
theorem descPart_ok (o : OrdN n lt) (A : AsksN n lt cmp s) {p : Array Nat} {m nrem : Nat} {Q : Nat × Array Nat → Shared → Prop} (P : PmN n p) (h2 : m + 1 ≤ nrem) (h3 : nrem ≤ n) (hn : NonN lt p (m + 1)) (q : ∀ m' p', PmN n p' → 1 ≤ m' → m' ≤ nrem → SrtN lt p' m' → Q (m', p') s) : KasT.kasWp cmp (kas_descPart m nrem p) Q s := by
  unfold kas_descPart
  refine kas_bindN (desc_ok o A (nrem - (m + 1)) p (m + 1) 0 P (by omega) (by omega) hn ?_ (by omega) fun p' m' q' P' a b hn' he' hq' => ?_)
  · intro x h4 h5
    have : x = m := by omega
    subst this
    exact ⟨o.irr (P.inn (by omega)), o.irr (P.inn (by omega))⟩
  · show KasT.kasWp cmp (if q' > 0 then kas_tail3 m' nrem (kas_rev p' (m' - (q' + 1)) m') else kas_tail3 m' nrem p') Q s
    split
    · exact tail3_ok o A (P'.rev _ _) (by omega) (by omega) h3 (rev_non o P' (by omega) hn' he') q
    · exact tail3_ok o A P' (by omega) (by omega) h3 hn' q
theorem count_ok (o : OrdN n lt) (A : AsksN n lt cmp s) {p : Array Nat} {Q : Nat × Array Nat → Shared → Prop} (P : PmN n p) (h1 : 1 ≤ n) (q : ∀ m' p', PmN n p' → 1 ≤ m' → m' ≤ n → SrtN lt p' m' → Q (m', p') s) : KasT.kasWp cmp (kas_count n p) Q s := by
  have hs := P.size
  unfold kas_count
  refine kas_bindN (asc_ok o A P (n - 1) 1 (Nat.le_refl _) (by omega) (fun i j a b => ?_) fun m a b hm hd => ?_)
  · have e1 : i = 0 := by omega
    have e2 : j = 0 := by omega
    subst e1; subst e2
    exact o.irr (P.inn (by omega))
  · show KasT.kasWp cmp (if (m == n) = true then _ else _) Q s
    by_cases e : m = n
    · rw [if_pos (by simp [e])]
      exact kas_ret (q m p P a (by omega) hm)
    · rw [if_neg (by simp [e])]
      have hlt : lt (at_ p m) (at_ p (m - 1)) = true := by
        rcases hd with hd | hd
        · omega
        · exact hd
      have hge := o.asym _ _ (P.inn (by omega)) (P.inn (by omega)) hlt
      split
      · rename_i h2
        refine kas_askN A (P.inn (by omega)) (P.inn (by omega)) ?_
        cases c : lt (at_ p 0) (at_ p (m - 1)) with
        | true =>
          show KasT.kasWp cmp (if true = true then _ else _) Q s
          rw [if_pos rfl]
          exact kas_ret (q m p P a (by omega) hm)
        | false =>
          show KasT.kasWp cmp (if false = true then _ else _) Q s
          rw [if_neg Bool.false_ne_true]
          refine descPart_ok o A (P.rev 0 m) (by omega) (Nat.le_refl _) ?_ q
          have al : ∀ i j, i < m → j < m → lt (at_ p i) (at_ p j) = false := fun i j hi hj => by
            have e1 : lt (at_ p i) (at_ p (m - 1)) = false := by
              have : lt (at_ p i) (at_ p (m - 1)) = false := by
                by_cases e0 : i = 0
                · rw [e0]; exact c
                · cases e2 : lt (at_ p i) (at_ p (m - 1)) with
                  | false => rfl
                  | true =>
                    have h5 : lt (at_ p i) (at_ p 0) = false := hm 0 i (by omega) hi
                    exact absurd (o.trans _ (at_ p 0) _ (P.inn (by omega)) (P.inn (by omega)) (P.inn (by omega)) c h5) (by rw [e2]; decide)
              exact this
            exact o.trans _ (at_ p (m - 1)) _ (P.inn (by omega)) (P.inn (by omega)) (P.inn (by omega)) (hm j (m - 1) (by omega) (by omega)) e1
          intro i j hij hj
          rw [at_mirror (by omega), at_mirror (by omega)]
          by_cases cj : j = m
          · subst cj
            by_cases ci : i = j
            · subst ci
              rw [if_neg (by omega)]
              exact o.irr (P.inn (by omega))
            · rw [if_pos (show 0 ≤ i ∧ i < j by omega), if_neg (show ¬ (0 ≤ j ∧ j < j) by omega)]
              exact o.trans _ (at_ p (j - 1)) _ (P.inn (by omega)) (P.inn (by omega)) (P.inn (by omega)) hge (al _ _ (by omega) (by omega))
          · rw [if_pos (by omega), if_pos (by omega)]
            exact al _ _ (by omega) (by omega)
      · rename_i h2
        have e1 : m = 1 := by omega
        subst e1
        refine descPart_ok o A P (by omega) (Nat.le_refl _) ?_ q
        intro i j hij hj
        by_cases ej : j = 0
        · have : i = 0 := by omega
          subst this; subst ej
          exact o.irr (P.inn (by omega))
        · have : j = 1 := by omega
          subst this
          by_cases ei : i = 1
          · subst ei; exact o.irr (P.inn (by omega))
          · have : i = 0 := by omega
            subst this
            exact hge
theorem place_ok (o : OrdN n lt) (A : AsksN n lt cmp s) {p : Array Nat} {k : Nat} {Q : Nat → Shared → Prop} (P : PmN n p) (hk : k < n) (hs : SrtN lt p k) : ∀ (f l r : Nat), l ≤ r → r ≤ k → r - l ≤ f → (∀ i, i < l → lt (at_ p k) (at_ p i) = false) → (∀ i, r ≤ i → i < k → lt (at_ p k) (at_ p i) = true) →
    (∀ l', l' ≤ k → (∀ i, i < l' → lt (at_ p k) (at_ p i) = false) → (∀ i, l' ≤ i → i < k → lt (at_ p k) (at_ p i) = true) → Q l' s) → KasT.kasWp cmp (kas_place p k f l r) Q s
  | 0, l, r, h1, h2, h3, ha, hb, q => by
    rw [kas_place.eq_def]
    have : l = r := by omega
    subst this
    exact kas_ret (q l h2 ha hb)
  | f + 1, l, r, h1, h2, h3, ha, hb, q => by
    rw [kas_place.eq_def]
    show KasT.kasWp cmp (if l ≥ r then _ else _) Q s
    split
    · have : l = r := by omega
      subst this
      exact kas_ret (q l h2 ha hb)
    · refine kas_askN A (P.inn hk) (P.inn (by omega)) ?_
      cases c : lt (at_ p k) (at_ p ((l + r) / 2)) with
      | true =>
        show KasT.kasWp cmp (if true = true then _ else _) Q s
        rw [if_pos rfl]
        refine place_ok o A P hk hs f l ((l + r) / 2) (by omega) (by omega) (by omega) ha (fun i hi hik => ?_) q
        cases e : lt (at_ p k) (at_ p i) with
        | true => rfl
        | false => exact absurd (o.trans _ (at_ p i) _ (P.inn (by omega)) (P.inn (by omega)) (P.inn hk) (hs _ i hi hik) e) (by rw [c]; decide)
      | false =>
        show KasT.kasWp cmp (if false = true then _ else _) Q s
        rw [if_neg Bool.false_ne_true]
        refine place_ok o A P hk hs f ((l + r) / 2 + 1) r (by omega) (by omega) (by omega) (fun i hi => ?_) hb q
        exact o.trans _ (at_ p ((l + r) / 2)) _ (P.inn (by omega)) (P.inn (by omega)) (P.inn hk) (hs i _ (by omega) (by omega)) c
theorem bin_ok (o : OrdN n lt) (A : AsksN n lt cmp s) {Q : Array Nat → Shared → Prop} : ∀ (f : Nat) (p : Array Nat) (k : Nat), PmN n p → k + f = n → SrtN lt p k → (∀ p', PmN n p' → SrtN lt p' n → Q p' s) → KasT.kasWp cmp (kas_bin f p k) Q s
  | 0, p, k, P, h, hs, q => by
    rw [kas_bin.eq_1]
    have : k = n := by omega
    subst this
    exact kas_ret (q p P hs)
  | f + 1, p, k, P, h, hs, q => by
    rw [kas_bin.eq_2]
    have hz := P.size
    refine kas_bindN (place_ok o A P (by omega) hs k 0 k (by omega) (Nat.le_refl _) (by omega) (fun i hi => by omega) (fun i a b => by omega) fun l hl ha hb => ?_)
    refine bin_ok o A f _ (k + 1) (P.bub _ _) (by omega) ?_ q
    intro i j hij hj
    have el : k - (k - l) = l := by omega
    rw [at_bubble (by omega) (by omega), at_bubble (by omega) (by omega), el]
    have hk : k < n := by omega
    by_cases j1 : j = l
    · rw [if_pos j1]
      by_cases i1 : i = l
      · rw [if_pos i1]; exact o.irr (P.inn hk)
      · rw [if_neg i1, if_neg (by omega)]
        exact ha i (by omega)
    · rw [if_neg j1]
      by_cases j2 : l < j ∧ j ≤ k
      · rw [if_pos j2]
        by_cases i1 : i = l
        · rw [if_pos i1]
          exact o.asym _ _ (P.inn hk) (P.inn (by omega)) (hb (j - 1) (by omega) (by omega))
        · rw [if_neg i1]
          by_cases i2 : l < i ∧ i ≤ k
          · rw [if_pos i2]
            exact hs _ _ (by omega) (by omega)
          · rw [if_neg i2]
            exact hs _ _ (by omega) (by omega)
      · rw [if_neg j2, if_neg (by omega), if_neg (by omega)]
        exact hs _ _ hij (by omega)
theorem sort_ok (o : OrdN n lt) (A : AsksN n lt cmp s) {Q : Array Nat → Shared → Prop} (h1 : 1 ≤ n) (q : ∀ p', PmN n p' → SrtN lt p' n → Q p' s) : KasT.kasWp cmp (kas_sort n) Q s := by
  unfold kas_sort
  refine kas_bindN (count_ok o A ⟨Array.Perm.refl _⟩ h1 fun m p P a b hs => ?_)
  show KasT.kasWp cmp (if m < n then _ else _) Q s
  split
  · have e : max m 1 = m := by omega
    rw [e]
    exact bin_ok o A (n - m) p m P (by omega) hs q
  · have : m = n := by omega
    subst this
    exact kas_ret (q p P hs)
end
end L2
namespace L2
open PySem PySem.Spec PyProof.Rows
theorem Inv.laidL {X : Cx} {pins : List (Addr × Obj)} {σ : St} {H : Hp} {s : Shared} {h' : Heap} {a : Addr} {o : HO} {t' : Nat} (I : Inv X pins σ H s) (k : ∀ b u, b ≠ X.env.locals → s.heap.get? b = some u → h'.get? b = some u)
    (ns : ∀ m, s.heap.Ns X.env.locals m → h'.Ns X.env.locals m) (hp : s.heap.get? a = none) (hn : H a = none) (new : ObjOk X.prog X.w (upd H a o) h' a o) : Inv X pins σ (upd H a o) { s with heap := h', toks := t' } := by
  have ne : ∀ b u, s.heap.get? b = some u → b ≠ a := fun b u q z => by rw [z, hp] at q; cases q
  refine I.step (g' := s.gens) (d' := s.drawn) (ch := []) (fun _ z => nomatch z) (fun b u hb _ _ e _ => k b u hb e) (fun b u hb _ _ e _ => ⟨u.slots, k b u hb e⟩) (fun b u _ e n => by rw [upd_ne (ne b u e)]; exact n)
    (fun b u _ e => ?_) (fun b xs q => by rw [upd_ne (ne_of_none q hn)]; exact q) (fun b u xs q => by rw [upd_ne (ne_of_none q hn)]; exact q) (fun b ps q => ⟨#[], by rw [upd_ne (ne_of_none q hn), q]; simp⟩) ns (fun b u e => ?_) I.bare
  · by_cases hb : b = X.env.locals
    · obtain ⟨m, hm, _⟩ := I.loc
      obtain ⟨o', _, _, ho', _⟩ := ns m hm
      exact ⟨o', by rw [hb]; exact ho'⟩
    · exact ⟨u, k b u hb e⟩
  · by_cases hb : b = a
    · subst hb; rw [upd_same] at e; cases e; exact new
    · rw [upd_ne hb] at e
      refine (I.hok b u e).stay (fun c v hc q => k c v ?_ q) (fun c q => by rw [upd_ne (ne_of_none q hn)]; exact q) fun c xs q => by rw [upd_ne (ne_of_none q hn)]; exact q
      rintro rfl
      rcases hc with rfl | hc
      · rw [I.free] at e; cases e
      · rw [I.free] at hc; cases hc
def ltL (x y : Str) : Bool := decide (x.cps.toList < y.cps.toList)
theorem ltL_neg {a b c : Str} (h : ltL a c = true) : ltL a b = true ∨ ltL b c = true := strKind.negTrans a.cps.toList b.cps.toList c.cps.toList h
theorem ltL_asym {a b : Str} (h : ltL a b = true) : ltL b a = false := by
  cases e : ltL b a with
  | false => rfl
  | true =>
    have h1 := strKind.trans a.cps.toList b.cps.toList a.cps.toList h e
    have h2 := strKind.irrefl a.cps.toList
    rw [h2] at h1
    cases h1
theorem ltL_total {a b : Str} (h : ltL a b = false) (k : ltL b a = false) : a = b := by
  have := strKind.total a.cps.toList b.cps.toList h k
  cases a with
  | mk x => cases b with
    | mk y => rw [show x = y from Array.toList_inj.mp this]
theorem ltL_irr (a : Str) : ltL a a = false := strKind.irrefl a.cps.toList
theorem getD_ref (ts : List Addr) (i : Nat) (h : i < ts.length) : (ts.map Value.ref).getD i Value.none = Value.ref (ts.getD i 0) := by
  simp [List.getD, h]
theorem refs_vals : ∀ {ts : List Addr} {its : List Value}, Vals (ts.map V.ref) its → its = ts.map Value.ref
  | [], [], _ => rfl
  | t :: r, u :: its, h => by
    cases h with
    | cons a b =>
      cases (show u = Value.ref t from a)
      rw [refs_vals b]
      rfl
theorem vals_refs : ∀ (ts : List Addr), Vals (ts.map V.ref) (ts.map Value.ref)
  | [] => .nil
  | t :: r => .cons rfl (vals_refs r)
end L2
namespace L2
open PySem PySem.Spec PyProof.Rows
section
variable {prog : Program} {w : World} {A : Around} {E : Value → Shared → Prop} {s : Shared}
theorem sort_short {a : Addr} {vs : List Value} {n : Nat} {P : Fin → Shared → Prop} (ho : s.heap.get? a = some (seqObj "list" vs.toArray n)) (h1 : vs.length < 2)
    (h : P (.done (.ret .none)) { s with heap := sortedHeap s.heap a vs ((pairsOf vs).map (·.2)) }) :
    wpAny (model prog w) A (Builtin.«list.sort» ⟨[.ref a], []⟩) P E s := by
  rw [list_sort_plain]
  have ha : a < s.heap.objs.size := Heap.lt_size ho
  refine wpAny_bind (listItems_at ho rfl ?_)
  refine wpAny_bind (listUpdate_at ho rfl ?_)
  obtain ⟨e1, ho1⟩ : ∃ e1, (s.heap.update a (Obj.mapSeq fun _ => #[])).get? a = some (seqObj "list" #[] e1) := ⟨_, get?_update_seq ho (fun _ => #[])⟩
  refine wpAny_bind (seqEpoch_at ho1 rfl ?_)
  refine wpAny_bind (wpAny_newTuple ?_)
  refine wpAny_bind (wpAny_newList ?_)
  refine wpAny_holding ?_
  have ho6 : (((s.heap.update a (Obj.mapSeq fun _ => #[])).push (seqObj "tuple" vs.toArray 0)).push (seqObj "list" #[] 0)).get? a = some (seqObj "list" #[] e1) := by
    rw [Heap.get?_push_ne _ _ _ (by rw [size_push', Heap.size_update]; exact Nat.ne_of_lt (Nat.lt_succ_of_lt ha)), Heap.get?_push_ne _ _ _ (by rw [Heap.size_update]; exact Nat.ne_of_lt ha)]
    exact ho1
  show wpAny (model prog w) A _ P E { s with heap := ((s.heap.update a (Obj.mapSeq fun _ => #[])).push (seqObj "tuple" vs.toArray 0)).push (seqObj "list" #[] 0) }
  dsimp only
  have h2 : vs.toArray.size < 2 := by simpa using h1
  rw [if_pos h2, if_pos h2]
  refine wpAny_bind (wpAny_pure ?_)
  rw [StateT.run_pure]
  refine wpAny_bind (wpAny_pure ?_)
  dsimp only
  refine wpAny_bind (seqEpoch_at ho6 rfl ?_)
  refine wpAny_bind (listUpdate_at ho6 rfl ?_ (hsz2 := by rw [Array.size_map]; show (pairsOf vs).size ≤ _; rw [pairsOf_size, sizeLine_eq]; omega))
  simp only [bne_self_eq_false, Bool.false_eq_true, if_false]
  exact wpAny_pure h
end
theorem pairs_snd : ∀ (vs : List Value), ((pairsOf vs).map (·.2)) = vs.toArray := fun vs => by
  apply Array.toList_inj.mp
  rw [Array.toList_map, pairsOf_toList, List.map_snd_zip (Nat.le_refl _)]
theorem op_eq_deepL {X : Cx} (n : Nat) (hu : X.A.units + (n + 1) < cLine) : OpR X (compareOp .Eq) (rDeep X.K true n) := by
  intro pins s σ H x y v u Q I rx ry h
  obtain ⟨a, b, xs, ys, rfl, rfl, ha, hb, p, q⟩ := h
  cases rx
  cases ry
  obtain ⟨its, r, pl, hz⟩ := I.list ha
  obtain ⟨its2, r2, pl2, hz2⟩ := I.list hb
  have l1 := r.length
  have l2 := r2.length
  have lp := Paired.length p
  refine SeqAt.RcAt.lists (e := fun _ => true) pl.isList pl2.isList (by simp only [List.size_toArray]; omega) (by omega) (fun j h1 h2 => deq_items r r2 p (fun x y u v d r1 r2 => deq_eq I n X.A.in1 x y u v d r1 r2 (by rw [Around.in1_units]; omega)) j h1 h2) X.prog X.w X.xe _ ?_
  have e : ((List.range its.toArray.size).all fun _ => true) = true := by simp
  rw [e]
  exact ⟨.bl true, H, I, rfl, q⟩
end L2
namespace ST
open PySem PySem.Spec PyProof.Rows L2
structure STO {α : Type} (lt : α → α → Bool) : Prop where
  asym : ∀ {a b}, lt a b = true → lt b a = false
  total : ∀ {a b}, lt a b = false → lt b a = false → a = b
  ntr : ∀ {a b c}, lt b a = false → lt c b = false → lt c a = false
theorem STO.irr {α : Type} {lt : α → α → Bool} (h : STO lt) (a : α) : lt a a = false := by
  cases e : lt a a with
  | false => rfl
  | true => rw [h.asym e] at e; cases e
def lex {α β : Type} [DecidableEq α] (l1 : α → α → Bool) (l2 : β → β → Bool) (a b : α × β) : Bool := if a.1 = b.1 then l2 a.2 b.2 else l1 a.1 b.1
theorem STO.lex {α β : Type} [DecidableEq α] {l1 : α → α → Bool} {l2 : β → β → Bool} (h1 : STO l1) (h2 : STO l2) : STO (lex l1 l2) := by
  refine ⟨fun {a b} h => ?_, fun {a b} h k => ?_, fun {a b c} h k => ?_⟩
  · unfold ST.lex at *
    by_cases e : a.1 = b.1
    · rw [if_pos e] at h; rw [if_pos e.symm]; exact h2.asym h
    · rw [if_neg e] at h; rw [if_neg (fun z => e z.symm)]; exact h1.asym h
  · unfold ST.lex at *
    by_cases e : a.1 = b.1
    · rw [if_pos e] at h; rw [if_pos e.symm] at k; exact Prod.ext e (h2.total h k)
    · rw [if_neg e] at h; rw [if_neg (fun z => e z.symm)] at k; exact absurd (h1.total h k) e
  · unfold ST.lex at *
    by_cases e1 : c.1 = a.1
    · rw [if_pos e1]
      by_cases e2 : b.1 = a.1
      · rw [if_pos e2] at h; rw [if_pos (e1.trans e2.symm)] at k
        exact h2.ntr h k
      · rw [if_neg e2] at h; rw [if_neg (fun z => e2 (z.symm.trans e1)), e1] at k
        exact absurd (h1.total h k) e2
    · rw [if_neg e1]
      by_cases e2 : b.1 = a.1
      · rw [if_neg (fun z => e1 (z.trans e2)), e2] at k
        exact k
      · rw [if_neg e2] at h
        by_cases e3 : c.1 = b.1
        · rw [e3]; exact h
        · rw [if_neg e3] at k; exact h1.ntr h k
theorem ltL_sto : STO ltL := ⟨ltL_asym, ltL_total, fun {a b c} h k => by
  cases e : ltL c a with
  | false => rfl
  | true => rcases ltL_neg (b := b) e with z | z <;> simp_all⟩
def iLt (a b : Int) : Bool := decide (a < b)
theorem iLt_sto : STO iLt := by
  refine ⟨fun {a b} h => ?_, fun {a b} h k => ?_, fun {a b c} h k => ?_⟩ <;> simp only [iLt, decide_eq_true_eq, decide_eq_false_iff_not] at * <;> omega
def oLt : Option Int → Option Int → Bool
  | none, some _ => true
  | some x, some y => iLt x y
  | _, none => false
theorem oLt_sto : STO oLt := by
  refine ⟨fun {a b} h => ?_, fun {a b} h k => ?_, fun {a b c} h k => ?_⟩
  · cases a <;> cases b <;> simp_all [oLt]; exact iLt_sto.asym h
  · cases a <;> cases b <;> simp_all [oLt]; exact iLt_sto.total h k
  · cases a <;> cases b <;> cases c <;> simp_all [oLt]; exact iLt_sto.ntr h k
abbrev DK := Str × Option Int
abbrev D3 := Int × Str × DK
abbrev dLt : DK → DK → Bool := lex ltL oLt
abbrev lt3 : D3 → D3 → Bool := lex iLt (lex ltL dLt)
theorem dLt_sto : STO dLt := ltL_sto.lex oLt_sto
theorem lt3_sto : STO lt3 := iLt_sto.lex (ltL_sto.lex dLt_sto)
def Srt {α : Type} (lt : α → α → Bool) (l : List α) : Prop := l.Pairwise fun x y => lt y x = false
theorem srt_unique {α : Type} {lt : α → α → Bool} (o : STO lt) : ∀ {l m : List α}, Srt lt l → Srt lt m → l.Perm m → l = m
  | [], m, _, _, p => by rw [List.nil_perm.mp p]
  | x :: r, [], _, _, p => absurd p.length_eq (by simp)
  | x :: r, y :: t, h, k, p => by
    have e : x = y := by
      have h1 := List.pairwise_cons.mp h
      have k1 := List.pairwise_cons.mp k
      rcases List.mem_cons.mp (p.mem_iff.mp (List.mem_cons_self (a := x) (l := r))) with e | e
      · exact e
      · rcases List.mem_cons.mp (p.mem_iff.mpr (List.mem_cons_self (a := y) (l := t))) with e2 | e2
        · exact e2.symm
        · exact o.total (k1.1 x e) (h1.1 y e2)
    subst e
    rw [srt_unique o (List.pairwise_cons.mp h).2 (List.pairwise_cons.mp k).2 (List.perm_cons x |>.mp p)]
def dKs (d : DK) : List Key := match d.2 with
  | none => [.inr d.1]
  | some i => [.inr d.1, .inl i]
def DIts (d : DK) (its : List Value) : Prop := match d.2 with
  | none => ∃ t, its = [.str d.1 t]
  | some i => ∃ t u, its = [.str d.1 t, .int i u]
def IsDK (h : Heap) (d : DK) (a : Addr) : Prop := ∃ o its n, h.get? a = some o ∧ o.cls = .type "tuple" ∧ o.data = .seq (List.toArray its) n ∧ DIts d its
theorem IsDK.keeps {h h' : Heap} {d : DK} {a : Addr} (x : IsDK h d a) (kp : Keep h h') : IsDK h' d a := by
  obtain ⟨o, its, n, h1, r⟩ := x
  exact ⟨o, its, n, kp _ _ h1, r⟩
section
variable {P : Program} {w : World} {A : Around} {E : Value → Shared → Prop} {s : Shared}
theorem katO {p q : Option Int} {a b : List Value} (ha : match p with | none => a = [] | some i => ∃ u, a = [Value.int i u]) (hb : match q with | none => b = [] | some i => ∃ u, b = [Value.int i u]) {n : Nat} {fin : Bool} (hf : fin = decide (a.length < b.length)) {Q : Bool → Shared → Prop} (h : Q (oLt p q) s) :
    PySem.W.KatLex P w A true fin Q (a.zip b) (n + 1) s := by
  subst hf
  cases p with
  | none =>
    dsimp only at ha
    subst ha
    cases q with
    | none => dsimp only at hb; subst hb; exact PySem.W.kat_nil h
    | some j => obtain ⟨u, rfl⟩ := hb; exact PySem.W.kat_nil h
  | some i =>
    obtain ⟨t, rfl⟩ := ha
    cases q with
    | none => dsimp only at hb; subst hb; exact PySem.W.kat_nil h
    | some j =>
      obtain ⟨u, rfl⟩ := hb
      refine PySem.W.kat_cons (SeqAt.EqAt.int_int i t j u P w _ _ ?_)
      by_cases e : i = j
      · rw [show (i == j) = true by simp [e]]
        refine PySem.W.kat_yes (PySem.W.kat_nil ?_)
        have : oLt (some i) (some j) = false := by show iLt i j = false; rw [e]; exact iLt_sto.irr j
        rw [this] at h
        exact h
      · rw [show (i == j) = false by simp [e]]
        refine PySem.W.kat_no ?_
        rw [show (true && n + 1 == 0) = false by simp]
        exact PySem.W.kat_one _ _ (PyProof.Rows.lt_int h)
theorem dits_split {d : DK} {its : List Value} (h : DIts d its) : ∃ t r, its = .str d.1 t :: r ∧ match d.2 with | none => r = [] | some i => ∃ u, r = [Value.int i u] := by
  obtain ⟨z, o⟩ := d
  cases o with
  | none => obtain ⟨t, rfl⟩ := h; exact ⟨t, [], rfl, rfl⟩
  | some i => obtain ⟨t, u, rfl⟩ := h; exact ⟨t, _, rfl, u, rfl⟩
theorem ask_deed {x y : Addr} {d e : DK} {Q : Bool → Shared → Prop} (hx : IsDK s.heap d x) (hy : IsDK s.heap e y) (q : Q (dLt d e) s) : wpAny (model P w) A (keyLt' (tuples' true) (.ref x) (.ref y)) Q (fun _ _ => False) s := by
  obtain ⟨o, its, n, h1, h2, h3, h4⟩ := hx
  obtain ⟨o', its', n', h1', h2', h3', h4'⟩ := hy
  obtain ⟨t, r, rfl, hr⟩ := dits_split h4
  obtain ⟨t', r', rfl, hr'⟩ := dits_split h4'
  refine PySem.W.kat_lt h1 h3 h1' h3' ?_
  show PySem.W.KatLex P w A true _ Q ((.str d.1 t, .str e.1 t') :: r.zip r') 0 s
  refine PySem.W.kat_cons (SeqAt.EqAt.str_str _ t _ t' P w _ _ ?_)
  unfold dLt ST.lex at q
  by_cases c : d.1 = e.1
  · rw [if_pos c] at q
    rw [show (d.1 == e.1) = true by simp [c]]
    exact PySem.W.kat_yes (katO hr hr' (by simp) q)
  · rw [if_neg c] at q
    rw [show (d.1 == e.1) = false by simp [c]]
    exact PySem.W.kat_no (oneLt_str q)
theorem lt_deed {x y : Addr} {d e : DK} {Q : Value → Shared → Prop} (hu : A.units < cLine) (hx : IsDK s.heap d x) (hy : IsDK s.heap e y) (q : Q (.bool (dLt d e)) s) : wpAny (model P w) A (compareOp .Lt (.ref x) (.ref y)) Q E s := by
  obtain ⟨o, its, n, h1, h2, h3, h4⟩ := hx
  obtain ⟨o', its', n', h1', h2', h3', h4'⟩ := hy
  have hxt : s.TypeIs (.ref x) "tuple" := ⟨o, h1, h2⟩
  have hyt : s.TypeIs (.ref y) "tuple" := ⟨o', h1', h2'⟩
  obtain ⟨t, r, rfl, hr⟩ := dits_split h4
  obtain ⟨t', r', rfl, hr'⟩ := dits_split h4'
  refine wpAny_richCompare_same_room (op := .Lt) hxt hyt F.slot_tuple_lt (wpAny_call_entry F.slot_tuple_lt hxt F.entry_tuple_lt ?_ (F.args_tuple_lt_2 _ _)) hu
  show wpAny _ _ (isInstance (.ref y) (.type "tuple") >>= _) _ _ s
  refine wpAny_bind (wpAny_isInstance hyt isSubtype_tuple_tuple ?_)
  simp only [Bool.not_true, Bool.false_eq_true, if_false]
  refine wpAny_bind (wpAny_tupleItemsOf h1 h3 ?_)
  refine wpAny_bind (wpAny_tupleItemsOf h1' h3' ?_)
  refine wpAny_bind ?_
  show wpAny _ _ (forIn ((Value.str d.1 t, Value.str e.1 t') :: r.zip r') _ _) _ _ _
  simp only [List.forIn_cons]
  refine wpAny_bind (wpAny_bind (SeqAt.EqAt.str_str _ t _ t' P w _ _ ?_))
  unfold dLt ST.lex at q
  by_cases c : d.1 = e.1
  · rw [if_pos c] at q
    rw [show (d.1 == e.1) = true by simp [c]]
    simp only [Bool.not_true, Bool.false_eq_true, if_false]
    refine wpAny_pure ?_
    dsimp only
    generalize hp : d.2 = p at hr q
    generalize hq : e.2 = p' at hr' q
    cases p with
    | none =>
      dsimp only at hr
      subst hr
      cases p' with
      | none =>
        dsimp only at hr'
        subst hr'
        simp only [List.zip_nil_left, List.forIn_nil]
        refine wpAny_pure ?_
        exact wpAny_pure ⟨_, rfl, (fun e => nomatch e), q⟩
      | some j =>
        obtain ⟨u, rfl⟩ := hr'
        simp only [List.zip_nil_left, List.forIn_nil]
        refine wpAny_pure ?_
        exact wpAny_pure ⟨_, rfl, (fun e => nomatch e), q⟩
    | some i =>
      obtain ⟨u, rfl⟩ := hr
      cases p' with
      | none =>
        dsimp only at hr'
        subst hr'
        simp only [List.zip_nil_right, List.forIn_nil]
        refine wpAny_pure ?_
        exact wpAny_pure ⟨_, rfl, (fun e => nomatch e), q⟩
      | some j =>
        obtain ⟨u', rfl⟩ := hr'
        simp only [List.zip_cons_cons, List.zip_nil_left, List.forIn_cons, List.forIn_nil]
        refine wpAny_bind (wpAny_bind (SeqAt.EqAt.int_int i u j u' P w _ _ ?_))
        by_cases c2 : i = j
        · rw [show (i == j) = true by simp [c2]]
          simp only [Bool.not_true, Bool.false_eq_true, if_false]
          refine wpAny_pure ?_
          dsimp only
          refine wpAny_pure ?_
          have : oLt (some i) (some j) = false := by show iLt i j = false; rw [c2]; exact iLt_sto.irr j
          rw [this] at q
          exact wpAny_pure ⟨_, rfl, (fun e => nomatch e), q⟩
        · rw [show (i == j) = false by simp [c2]]
          simp only [Bool.not_false, if_true]
          refine wpAny_bind (wpAny_rule ?_)
          refine wpAny_bind (PyProof.Rows.lt_int ?_)
          refine wpAny_bind (wpAny_pure (wpAny_pure ?_))
          dsimp only
          refine wpAny_pure ?_
          exact wpAny_pure ⟨_, rfl, (fun e => nomatch e), q⟩
  · rw [if_neg c] at q
    rw [show (d.1 == e.1) = false by simp [c]]
    simp only [Bool.not_false, if_true]
    refine wpAny_bind (wpAny_rule ?_)
    refine wpAny_bind (PyProof.Rows.lt_str ?_)
    refine wpAny_bind (wpAny_pure (wpAny_pure ?_))
    dsimp only
    refine wpAny_pure ?_
    exact wpAny_pure ⟨_, rfl, (fun e => nomatch e), q⟩
end
end ST
namespace ST
open PySem PySem.Spec PyProof.Rows L2
section
variable {P : Program} {w : World} {A : Around} {E : Value → Shared → Prop} {s : Shared}
theorem IsDK.key {h : Heap} {d : DK} {a : Addr} (x : IsDK h d a) : IsTupleKey (mixKind P w) h (dKs d) a := by
  obtain ⟨o, its, n, h1, h2, h3, h4⟩ := x
  refine ⟨o, its.toArray, n, h1, h2, h3, ?_⟩
  obtain ⟨z, p⟩ := d
  cases p with
  | none => obtain ⟨t, rfl⟩ := h4; exact .cons (mixKind_str P w _ _) .nil
  | some i => obtain ⟨t, u, rfl⟩ := h4; exact .cons (mixKind_str P w _ _) (.cons (mixKind_int P w _ _) .nil)
def Is3 (h : Heap) (k : D3) (a : Addr) : Prop := ∃ o t u b n, h.get? a = some o ∧ o.cls = .type "tuple" ∧ o.data = .seq #[.int k.1 t, .str k.2.1 u, .ref b] n ∧ IsDK h k.2.2 b
def tk3 (k : D3) : TK := (k.1, k.2.1, dKs k.2.2)
theorem tk3_inj {a b : D3} (h : tk3 a = tk3 b) : a = b := by
  obtain ⟨a1, a2, a3, a4⟩ := a
  obtain ⟨b1, b2, b3, b4⟩ := b
  simp only [tk3, Prod.mk.injEq] at h
  obtain ⟨h1, h2, h3⟩ := h
  cases a4 <;> cases b4 <;> simp_all [dKs]
theorem Is3.tk {h : Heap} {k : D3} {a : Addr} (x : Is3 h k a) : IsTK P w h (tk3 k) a := by
  obtain ⟨o, t, u, b, n, h1, h2, h3, h4⟩ := x
  exact ⟨o, t, u, b, n, h1, h2, h3, h4.key⟩
theorem Is3.keeps {h h' : Heap} {k : D3} {a : Addr} (x : Is3 h k a) (kp : Keep h h') : Is3 h' k a := by
  obtain ⟨o, t, u, b, n, h1, h2, h3, h4⟩ := x
  exact ⟨o, t, u, b, n, kp _ _ h1, h2, h3, h4.keeps kp⟩
theorem tk3_dec (a b : D3) : decide (tk3 a = tk3 b) = decide (a = b) := by
  by_cases h : a = b
  · rw [decide_eq_true h, decide_eq_true (by rw [h])]
  · rw [decide_eq_false h, decide_eq_false fun z => h (tk3_inj z)]
def d3Kind (P : Program) (w : World) : EKind P w D3 where
  is := Is3
  hash := fun k => tkHash P w (tk3 k)
  draws := fun k => (tk3 k).2.2.length + 4
  room := fun A => A.units + 4 < cLine
  inj := fun hx hy => tk3_inj (IsTK.inj (P := P) (w := w) hx.tk hy.tk)
  keeps := fun x k => x.keeps k
  pyHash := fun hu hk h => tk_hash hu hk.tk h
  eqBool := fun hu hx hy h => tk_eq hu hx.tk hy.tk (by rw [tk3_dec]; exact h)
  quiet := fun hk h => tk_quiet (P := P) (w := w) hk.tk h
  noCls := fun hk h => tk_noCls (P := P) (w := w) hk.tk h
  byVal := fun hk h => tk_byVal (P := P) (w := w) hk.tk h
theorem ask_3 {x y : Addr} {d e : D3} {Q : Bool → Shared → Prop} (hu : A.units + 2 < cLine) (hx : Is3 s.heap d x) (hy : Is3 s.heap e y) (q : Q (lt3 d e) s) : wpAny (model P w) A (keyLt' (tuples' true) (.ref x) (.ref y)) Q (fun _ _ => False) s := by
  obtain ⟨o, t, u, b, n, h1, h2, h3, h4⟩ := hx
  obtain ⟨o', t', u', b', n', h1', h2', h3', h4'⟩ := hy
  refine PySem.W.kat_lt h1 h3 h1' h3' ?_
  show PySem.W.KatLex P w A true _ Q [(.int d.1 t, .int e.1 t'), (.str d.2.1 u, .str e.2.1 u'), (.ref b, .ref b')] 0 s
  refine PySem.W.kat_cons (SeqAt.EqAt.int_int _ t _ t' P w _ _ ?_)
  unfold lt3 ST.lex at q
  by_cases c : d.1 = e.1
  · rw [if_pos c] at q
    rw [show (d.1 == e.1) = true by simp [c]]
    refine PySem.W.kat_yes (PySem.W.kat_cons (SeqAt.EqAt.str_str _ u _ u' P w _ _ ?_))
    by_cases c2 : d.2.1 = e.2.1
    · rw [if_pos c2] at q
      rw [show (d.2.1 == e.2.1) = true by simp [c2]]
      refine PySem.W.kat_yes (PySem.W.kat_cons (wpAny_eqBool_tuple (knd := mixKind P w) (by omega) h4.key h4'.key ?_))
      by_cases c3 : dKs d.2.2 = dKs e.2.2
      · rw [decide_eq_true c3]
        refine PySem.W.kat_yes (PySem.W.kat_nil ?_)
        have e3 : d.2.2 = e.2.2 := by
          have := tk3_inj (a := d) (b := e) (by unfold tk3; rw [c, c2, c3])
          rw [this]
        have : dLt d.2.2 e.2.2 = false := by rw [e3]; exact dLt_sto.irr _
        rw [this] at q
        exact q
      · rw [decide_eq_false c3]
        exact PySem.W.kat_no (PySem.W.kat_one _ _ (lt_deed (by omega) h4 h4' q))
    · rw [if_neg c2] at q
      rw [show (d.2.1 == e.2.1) = false by simp [c2]]
      exact PySem.W.kat_no (PySem.W.kat_one _ _ (lt_str q))
  · rw [if_neg c] at q
    rw [show (d.1 == e.1) = false by simp [c]]
    exact PySem.W.kat_no (oneLt_int q)
structure SKind (P : Program) (w : World) (K : Type) where
  is : Heap → K → Addr → Prop
  lt : K → K → Bool
  ord : STO lt
  room : Around → Prop
  keeps : ∀ {h h' : Heap} {k : K} {a : Addr}, is h k a → (∀ b o xs n, o.cls = .type "tuple" → o.data = .seq xs n → h.get? b = some o → h'.get? b = some o) → is h' k a
  ask : ∀ {A : Around} {s : Shared} {x y : Addr} {d e : K} {Q : Bool → Shared → Prop}, room A → is s.heap d x → is s.heap e y → Q (lt d e) s → wpAny (model P w) A (keyLt' (tuples' true) (.ref x) (.ref y)) Q (fun _ _ => False) s
  ty : String
  nty : (Value.type ty != Value.type "tuple") = true
  first : ∀ {h : Heap} {k : K} {a : Addr}, is h k a → ∃ o xs n f, h.get? a = some o ∧ o.cls = .type "tuple" ∧ o.data = .seq xs n ∧ xs[0]? = some f ∧ PySem.W.Looks (model P w) h (typeOf f) (.type ty)
variable {K : Type} {sk : SKind P w K}
theorem firsts_of {h : Heap} : ∀ {ts : List Addr} {zs : List K}, Paired (fun t z => sk.is h z t) ts zs → ∃ fs, PySem.W.KatTups h (ts.map Value.ref) fs ∧ fs.length = ts.length ∧ ∀ v ∈ fs, PySem.W.Looks (model P w) h (typeOf v) (.type sk.ty)
  | _, _, .nil => ⟨[], trivial, rfl, fun v h => by cases h⟩
  | _, _, .cons a b => by
    obtain ⟨fs, h1, h2, h3⟩ := firsts_of b
    obtain ⟨o, xs, n, f, g1, g2, g3, g4, g5⟩ := sk.first a
    refine ⟨f :: fs, ⟨⟨_, o, xs, n, rfl, g1, g2, g3, g4⟩, h1⟩, by simp [h2], fun v hv => ?_⟩
    rcases List.mem_cons.mp hv with e | e
    · rw [e]; exact g5
    · exact h3 v e
theorem sort_body {a L : Addr} {m : Str → Option Value} {n : Nat} {ts : List Addr} {zs : List K} {P' : PySem.Fin → Shared → Prop} (R : sk.room A) (hns : s.heap.Ns L m) (ho : s.heap.get? a = some (seqObj "list" (ts.map Value.ref).toArray n)) (rel : Paired (fun t z => sk.is s.heap z t) ts zs) (h64 : ts.length < 64)
    (q : ∀ (h2 : Heap) (c : Nat) (ts' : List Addr) (zs' : List K), (∀ b u, b ≠ L → b ≠ a → s.heap.get? b = some u → h2.get? b = some u) → h2.Ns L m → h2.get? a = some (seqObj "list" (ts'.map Value.ref).toArray c) → (∀ t' z', (t', z') ∈ ts'.zip zs' → (t', z') ∈ ts.zip zs) → ts'.length = zs'.length → zs'.Perm zs → Srt sk.lt zs' → P' (.done (.ret .none)) { s with heap := h2 }) :
    wpAny (model P w) A (Builtin.«list.sort» ⟨[.ref a], []⟩) P' E s := by
  have lp := Paired.length rel
  have haL : a ≠ L := fun z => by
    obtain ⟨o, es, ep, ho', hdt, _⟩ := hns
    rw [← z, ho] at ho'
    cases ho'
    cases hdt
  by_cases h2 : ts.length < 2
  · refine sort_short ho (by simpa using h2) ?_
    rw [pairs_snd]
    obtain ⟨e, he⟩ := sortedHeap_at (out := (ts.map Value.ref).toArray) ho
    have keep : ∀ b u, b ≠ a → s.heap.get? b = some u → (sortedHeap s.heap a (ts.map Value.ref) (ts.map Value.ref).toArray).get? b = some u := fun b u nb hb => by
      have lb := Heap.lt_size hb
      rw [sortedHeap_old nb lb]
      exact hb
    refine q _ e ts zs (fun b u _ nb hb => keep b u nb hb) ?_ he (fun _ _ h => h) lp (.refl _) ?_
    · obtain ⟨o, es, ep, h1, h2⟩ := hns
      exact ⟨o, es, ep, keep L o (Ne.symm haL) h1, h2⟩
    · match zs, lp with
      | [], _ => exact .nil
      | [_], _ => exact List.pairwise_singleton _ _
      | _ :: _ :: _, z => simp at z; omega
  refine PySem.W.kat_list_sort (h₀ := Att.noObjs s.heap) (L := L) (m := m) (news := Att.ledger s.heap L a) (vs := ts.map Value.ref) (Att.fr_all hns) (fun p hp => (Att.news_ledger haL ho) p (List.mem_cons_of_mem _ hp)) ho haL (Att.noObjs_get _ _) (fun p hp => ?_) (by rw [List.length_map]; omega) (by rw [List.length_map]; exact h64) fun e1 h' F' N' => ?_
  · obtain ⟨b, u⟩ := p
    exact (Att.mem_ledger.mp hp).2.1
  have keep : ∀ b u, b ≠ L → b ≠ a → s.heap.get? b = some u → h'.get? b = some u := fun b u nb na hb => (N' (b, u) (List.mem_cons_of_mem _ (Att.mem_ledger.mpr ⟨nb, na, hb⟩))).1
  have ktup : ∀ b o xs n, o.cls = .type "tuple" → o.data = .seq xs n → s.heap.get? b = some o → h'.get? b = some o := fun b o xs n c d hb => by
    refine keep b o ?_ ?_ hb
    · rintro rfl
      obtain ⟨o', es, ep, ho', hdt, hc, _⟩ := hns
      rw [hb] at ho'
      cases ho'
      rw [d] at hdt
      cases hdt
    · rintro rfl
      rw [ho] at hb
      cases hb
      exact absurd (show Value.type "list" = Value.type "tuple" from c) (by decide)
  have rel' : Paired (fun t z => sk.is h' z t) ts zs := paired_imp (fun t z i => sk.keeps i ktup) rel
  obtain ⟨fs, k1, k2, k3⟩ := firsts_of rel'
  refine PySem.W.kat_kind (T := .type sk.ty) k1 (by omega) (fun v hv => k3 v hv) (by simp) ?_
  rw [sk.nty, List.length_map]
  have atz : ∀ i, i < ts.length → ∃ t z, ts[i]? = some t ∧ zs[i]? = some z ∧ sk.is h' z t := fun i hi => by
    have e : zs[i]? = some (zs[i]'(by omega)) := List.getElem?_eq_getElem (by omega)
    obtain ⟨t, e1, e2⟩ := Paired.at_ rel' i _ e
    exact ⟨t, _, e1, e, e2⟩
  have ne : ts ≠ [] := fun z => by rw [z] at h2; simp at h2
  obtain ⟨z0, hz0⟩ : ∃ z0, zs[0]? = some z0 := by
    obtain ⟨_, z, _, e, _⟩ := atz 0 (by omega)
    exact ⟨z, e⟩
  refine sort_ok (n := ts.length) (lt := fun i j => sk.lt (zs.getD i z0) (zs.getD j z0)) ⟨fun a b c _ _ _ h1 h2 => sk.ord.ntr h1 h2, fun a b _ _ h => sk.ord.asym h⟩ (fun i j C hi hj hC => ?_) (by omega) fun p PP S => ?_
  · obtain ⟨ti, zi, g1, g2, g3⟩ := atz i hi
    obtain ⟨tj, zj, g4, g5, g6⟩ := atz j hj
    show wpAny _ _ (keyLt' _ ((ts.map Value.ref).getD i Value.none) ((ts.map Value.ref).getD j Value.none)) C _ _
    have e1 : (ts.map Value.ref).getD i Value.none = .ref ti := by rw [List.getD, List.getElem?_map, g1]; rfl
    have e2 : (ts.map Value.ref).getD j Value.none = .ref tj := by rw [List.getD, List.getElem?_map, g4]; rfl
    rw [e1, e2]
    dsimp only at hC
    rw [show zs.getD i z0 = zi by rw [List.getD, g2]; rfl, show zs.getD j z0 = zj by rw [List.getD, g5]; rfl] at hC
    exact sk.ask R g3 g6 hC
  · have hps := PP.size
    have pin : ∀ i ∈ p.toList, i < ts.length := fun i hi => by
      have : i ∈ (List.range ts.length).toArray := PP.pm.mem_iff.mp (by simpa using hi)
      simpa using this
    refine ⟨(a, seqObj "list" #[] e1) :: Att.ledger s.heap L a, fun o' => (a, o') :: Att.ledger s.heap L a, F', N', .head fun q hq => ?_, fun h2 c F2 N2 => ?_⟩
    · obtain ⟨b, u⟩ := q
      exact (Att.mem_ledger.mp hq).2.1
    have eout : (p.toList.map fun i => (ts.map Value.ref).getD i Value.none) = (p.toList.map fun i => ts.getD i 0).map Value.ref := by
      rw [List.map_map]
      exact List.map_congr_left fun i hi => getD_ref ts i (pin i hi)
    rw [eout] at N2
    refine q h2 c (p.toList.map fun i => ts.getD i 0) (p.toList.map fun i => zs.getD i z0) (fun b u nb na hb => (N2 (b, u) (List.mem_cons_of_mem _ (Att.mem_ledger.mpr ⟨nb, na, hb⟩))).1) F2.ns (N2 (a, _) List.mem_cons_self).1 (fun t' z' hz => ?_) (by simp) ?_ ?_
    · rw [List.zip_map', List.mem_map] at hz
      obtain ⟨i, hi, e⟩ := hz
      have hi' := pin i hi
      obtain ⟨t, z, g1, g2, _⟩ := atz i hi'
      cases e
      rw [List.mem_iff_getElem?]
      refine ⟨i, ?_⟩
      rw [List.getElem?_zip_eq_some]
      exact ⟨by show ts[i]? = some (ts.getD i 0); rw [List.getD, g1]; rfl, by show zs[i]? = some (zs.getD i z0); rw [List.getD, g2]; rfl⟩
    · have e : zs = (List.range ts.length).map fun i => zs.getD i z0 := by
        refine List.ext_getElem (by simp [lp]) fun i h1 h2 => ?_
        simp [List.getD, h1]
      have pp : p.toList.Perm (List.range ts.length) := by
        have := PP.pm.toList
        simpa using this
      exact (pp.map _).trans (by rw [← e])
    · unfold Srt
      rw [List.pairwise_map, List.pairwise_iff_getElem]
      intro i j hi hj hij
      have := S i j (by omega) (by simpa [hps] using hj)
      have e1 : at_ p i = p.toList[i] := by simp [at_, Array.getD, show i < p.size by simpa using hi]
      have e2 : at_ p j = p.toList[j] := by simp [at_, Array.getD, show j < p.size by simpa using hj]
      rw [e1, e2] at this
      exact this
end
section
variable {P : Program} {w : World} {A : Around} {E : Value → Shared → Prop} {s : Shared}
theorem tkeep {h h' : Heap} (k : ∀ b o xs n, o.cls = Value.type "tuple" → o.data = .seq xs n → h.get? b = some o → h'.get? b = some o) {d : DK} {a : Addr} (x : IsDK h d a) : IsDK h' d a := by
  obtain ⟨o, its, n, h1, h2, h3, h4⟩ := x
  exact ⟨o, its, n, k _ _ _ _ h2 h3 h1, h2, h3, h4⟩
def d3Sort (P : Program) (w : World) : SKind P w D3 where
  is := Is3
  lt := lt3
  ord := lt3_sto
  room := fun A => A.units + 2 < cLine
  keeps := fun x k => by
    obtain ⟨o, t, u, b, n, h1, h2, h3, h4⟩ := x
    exact ⟨o, t, u, b, n, k _ _ _ _ h2 h3 h1, h2, h3, tkeep k h4⟩
  ask := fun hu hx hy q => ask_3 hu hx hy q
  ty := "int"
  nty := by decide
  first := fun {h k a} x => by
    obtain ⟨o, t, u, b, n, h1, h2, h3, h4⟩ := x
    exact ⟨o, _, n, _, h1, h2, h3, rfl, fun A Q E s _ q => wpAny_pure q⟩
def dkSort (P : Program) (w : World) : SKind P w DK where
  is := IsDK
  lt := dLt
  ord := dLt_sto
  room := fun A => True
  keeps := fun x k => tkeep k x
  ask := fun hu hx hy q => ask_deed hx hy q
  ty := "str"
  nty := by decide
  first := fun {h k a} x => by
    obtain ⟨o, its, n, h1, h2, h3, h4⟩ := x
    obtain ⟨t, r, rfl, _⟩ := dits_split h4
    exact ⟨o, _, n, _, h1, h2, h3, rfl, fun A Q E s _ q => wpAny_pure q⟩
theorem sorted_key {K : Type} [DecidableEq K] {kd : EKind P w K} {sk : SKind P w K} (same : kd.is = sk.is) {h0 : Heap} {S L : Addr} {m : Str → Option Value} {ds : List K} {Q : Value → Shared → Prop} (hh : A.handled = none) (R : sk.room A.in1.in1) (hns : s.heap.Ns L m) (kp0 : Keep h0 s.heap) (T : KSet kd h0 s.heap S (ledW w) ds) (h64 : ds.length < 64)
    (q : ∀ (h' : Heap) (d : Drawn) (tk : Nat) (l : Addr) (e : Nat) (ts : List Addr) (zs : List K), (∀ b o, b ≠ L → s.heap.get? b = some o → h'.get? b = some o) → h'.Ns L m → s.heap.objs.size ≤ l → h'.get? l = some (seqObj "list" (ts.map Value.ref).toArray e) → Paired (fun t z => sk.is h0 z t) ts zs → zs.Perm ds → Srt sk.lt zs → s.toks ≤ tk → Q (.ref l) { s with heap := h', drawn := d, toks := tk }) :
    wpAny (model P w) A (call (.builtin "sorted") [.ref S]) Q E s := by
  refine Calls.call_function_entry kind_sorted plain_sorted entry_sorted (args_sorted1 _) ?_
  unfold Builtin.«sorted»
  refine wpAny_bind (m := checkCount "sorted" 1 1 _) (wpAny_pure ?_)
  refine wpAny_bind (collect_key (by simp [hh]) T (by unfold scanBound; omega) fun h1 d tk vs kp le hz tk1 => ?_)
  obtain ⟨zs, hS, pz⟩ := hz
  obtain ⟨ts, rfl, rel⟩ : ∃ ts : List Addr, vs = ts.map Value.ref ∧ Paired (fun t z => sk.is h0 z t) ts zs := by
    rw [same] at hS
    clear pz
    induction hS with
    | nil => exact ⟨[], rfl, .nil⟩
    | cons a _ ih =>
      obtain ⟨b, rfl, i⟩ := a
      obtain ⟨ts, rfl, r⟩ := ih
      exact ⟨b :: ts, rfl, .cons i r⟩
  have lz : ts.length = ds.length := by rw [← pz.length_eq, Paired.length rel]
  refine wpAny_bind (wpAny_newList ?_)
  have hoL : (h1.push (seqObj "list" (ts.map Value.ref).toArray 0)).get? h1.objs.size = some (seqObj "list" (ts.map Value.ref).toArray 0) := Heap.get?_push_size _ rfl
  have hns1 : (h1.push (seqObj "list" (ts.map Value.ref).toArray 0)).Ns L m := by
    obtain ⟨o, es, ep, g1, g2⟩ := hns
    exact ⟨o, es, ep, Heap.get?_push_of_some _ (kp _ _ g1), g2⟩
  have kp1 : ∀ b o, h0.get? b = some o → (h1.push (seqObj "list" (ts.map Value.ref).toArray 0)).get? b = some o := fun b o g => Heap.get?_push_of_some _ (kp _ _ (kp0 _ _ g))
  have rel1 : Paired (fun t z => sk.is (h1.push (seqObj "list" (ts.map Value.ref).toArray 0)) z t) ts zs := paired_imp (fun t z i => sk.keeps i fun b o xs n _ _ g => kp1 b o g) rel
  refine wpAny_bind (wpAny_holding (wpAny_call_entry slot_list_sort ⟨_, hoL, rfl⟩ entry_list_sort (sort_body (s := { s with heap := h1.push (seqObj "list" (ts.map Value.ref).toArray 0), drawn := d, toks := tk }) R hns1 hoL rel1 (by omega) fun h2 c ts' zs' k2 ns2 g2 sub len pm srt => ⟨_, rfl, ?_⟩) (args_list_sort _)))
  refine wpAny_pure ⟨_, rfl, q h2 d tk h1.objs.size c ts' zs' (fun b o nb hb => ?_) ns2 le g2 ?_ (pm.trans pz) srt tk1⟩
  · have hb1 := kp b o hb
    exact k2 b o nb (Nat.ne_of_lt (Heap.lt_size hb1)) (Heap.get?_push_of_some _ hb1)
  · have all : ∀ p ∈ ts.zip zs, sk.is h0 p.2 p.1 := by
      clear hS sub q k2 rel1 lz hoL hns1 kp1 pm pz
      induction rel with
      | nil => intro p hp; cases hp
      | cons a _ ih =>
        intro p hp
        rw [List.zip_cons_cons] at hp
        rcases List.mem_cons.mp hp with e | e
        · rw [e]; exact a
        · exact ih p e
    have mk : ∀ (l : List Addr) (m : List K), l.length = m.length → (∀ p ∈ l.zip m, sk.is h0 p.2 p.1) → Paired (fun t z => sk.is h0 z t) l m := by
      intro l
      induction l with
      | nil => intro m e _; cases m with | nil => exact .nil | cons _ _ => cases e
      | cons x r ih =>
        intro m e h
        cases m with
        | nil => cases e
        | cons y t =>
          rw [List.zip_cons_cons] at h
          exact .cons (h (x, y) List.mem_cons_self) (ih t (by simpa using e) fun p hp => h p (List.mem_cons_of_mem _ hp))
    exact mk ts' zs' len fun p hp => all p (sub p.1 p.2 hp)
end
end ST
namespace L2
open PySem PySem.Spec PyProof.Rows
section
variable {P : Program} {w : World} {A : Around} {E : Value → Shared → Prop} {s : Shared}
end
end L2
namespace L2
open PySem PySem.Spec PyProof.Rows PySem.W
section
variable {X : Cx} {params : Arguments} {body : Expr} {scope : Scope} {pos : Pos} {c T : Addr}
end
end L2
namespace L2
open PySem PySem.Spec PyProof.Rows PySem.W
section
variable {P : Program} {w : World} {K : Frag} {mg : Str → Option Value} {base : Heap} {f c' : Addr} {q : Str} {params : Arguments} {body : Expr} {scope : Scope} {pm ctv : Value} {N ps : List Str} {k : Nat} {te : TE}
end
section
variable {X : Cx} {i : Nat} {x : Str} {e : Expr} {es : List Expr} {t : TA} {p pos : Pos} {q : Str} {params : Arguments} {body : Expr} {scope : Scope} {N ps : List Str} {k : Nat} {te : TE}
end
end L2
namespace L2
open PySem PySem.Spec PyProof.Rows PySem.W
end L2
namespace L2
open PySem PySem.Spec PyProof.Rows PySem.W
section
variable {P : Program} {w : World} {A : Around} {E : Value → Shared → Prop} {s : Shared}
end
section
variable {X : Cx} {params : Arguments} {body : Expr} {scope : Scope} {pos : Pos} {c T : Addr}
end
end L2
namespace L2
open PySem PySem.Spec PyProof.Rows PySem.W
section
variable {X : Cx} {i : Nat} {xs xh : Str} {params : Arguments} {scope : Scope} {p pos lpos kp p1 p2 p3 : Pos} {e : Expr} {ta : TA} {c T : Addr} {k : Nat}
end
end L2
namespace L2
open PySem PySem.Spec PyProof.Rows
theorem boot_setX : bootBuiltins "set" = some (.type "set") := by decide +kernel
theorem Inv.drawn {X : Cx} {pins : List (Addr × Obj)} {σ : List (Option V)} {H : Hp} {s : Shared} (d : Drawn) (I : Inv X pins σ H s) : Inv X pins σ H { s with drawn := d } := ⟨I.ok, I.os, I.bare, I.base, I.loc, I.cell, I.free, I.freeC, I.pin, I.hok, I.len⟩
end L2
namespace ST
open PySem PySem.Spec PyProof.Rows L2
section
variable {P : Program} {w : World} {A : Around} {E : Value → Shared → Prop} {s : Shared}
def EKind.wi {K : Type} [DecidableEq K] (kd : EKind P w K) (G : K → Addr → Prop) : EKind P w K where
  is := fun h k a => kd.is h k a ∧ G k a
  hash := kd.hash
  draws := kd.draws
  room := kd.room
  inj := fun hx hy => kd.inj hx.1 hy.1
  keeps := fun x k => ⟨kd.keeps x.1 k, x.2⟩
  pyHash := fun hu hk h => kd.pyHash hu hk.1 h
  eqBool := fun hu hx hy h => kd.eqBool hu hx.1 hy.1 h
  quiet := fun hk h => kd.quiet hk.1 h
  noCls := fun hk h => kd.noCls hk.1 h
  byVal := fun hk h => kd.byVal hk.1 h
def SKind.wi {K : Type} (sk : SKind P w K) (G : K → Addr → Prop) : SKind P w K where
  is := fun h k a => sk.is h k a ∧ G k a
  lt := sk.lt
  ord := sk.ord
  room := sk.room
  keeps := fun x k => ⟨sk.keeps x.1 k, x.2⟩
  ask := fun hu hx hy q => sk.ask hu hx.1 hy.1 q
  ty := sk.ty
  nty := sk.nty
  first := fun x => sk.first x.1
theorem zip_paired {α β : Type} {R : α → β → Prop} : ∀ {l : List α} {m : List β}, Paired R l m → ∀ p ∈ l.zip m, R p.1 p.2
  | _, _, .nil, p, hp => by cases hp
  | _, _, .cons a b, p, hp => by
    rw [List.zip_cons_cons] at hp
    rcases List.mem_cons.mp hp with e | e
    · rw [e]; exact a
    · exact zip_paired b p e
theorem paired_zip {α β : Type} {R : α → β → Prop} : ∀ {l : List α} {m : List β}, l.length = m.length → (∀ p ∈ l.zip m, R p.1 p.2) → Paired R l m
  | [], [], _, _ => .nil
  | [], _ :: _, e, _ => by cases e
  | _ :: _, [], e, _ => by cases e
  | x :: l, y :: m, e, h => by
    rw [List.zip_cons_cons] at h
    exact .cons (h (x, y) List.mem_cons_self) (paired_zip (by simpa using e) fun p hp => h p (List.mem_cons_of_mem _ hp))
theorem sortedL_key {K : Type} {sk : SKind P w K} {l L : Addr} {m : Str → Option Value} {ts : List Addr} {zs : List K} {Q : Value → Shared → Prop} (R : sk.room A.in1.in1) (hns : s.heap.Ns L m) (hl : s.heap.IsList l (ts.map Value.ref).toArray) (rel : Paired (fun t z => sk.is s.heap z t) ts zs) (h64 : ts.length < 64)
    (q : ∀ (h' : Heap) (c : Nat) (ts' : List Addr) (zs' : List K), (∀ b o, b ≠ L → s.heap.get? b = some o → h'.get? b = some o) → h'.Ns L m → h'.get? (s.heap.objs.size + 1) = some (seqObj "list" (ts'.map Value.ref).toArray c) → Paired (fun t z => sk.is s.heap z t) ts' zs' → zs'.Perm zs → Srt sk.lt zs' → Q (.ref (s.heap.objs.size + 1)) { s with heap := h' }) :
    wpAny (model P w) A (call (.builtin "sorted") [.ref l]) Q E s := by
  refine Calls.call_function_entry kind_sorted plain_sorted entry_sorted (args_sorted1 _) ?_
  unfold Builtin.«sorted»
  refine wpAny_bind (m := checkCount "sorted" 1 1 _) (wpAny_pure ?_)
  refine wpAny_bind (collect_list hl ?_ (by rw [sizeLine_eq, List.length_map]; omega))
  refine wpAny_bind (wpAny_newList ?_ (by rw [sizeLine_eq, List.length_map]; omega))
  have hsz : ((s.heap.push (seqObj "list" #[] 0)).update s.heap.objs.size (Obj.mapSeq (· ++ (ts.map Value.ref).toArray))).objs.size = s.heap.objs.size + 1 := by
    rw [Heap.size_update, size_push']
  have hoL : (((s.heap.push (seqObj "list" #[] 0)).update s.heap.objs.size (Obj.mapSeq (· ++ (ts.map Value.ref).toArray))).push (seqObj "list" (ts.map Value.ref).toArray 0)).get? (s.heap.objs.size + 1) = some (seqObj "list" (ts.map Value.ref).toArray 0) := by
    rw [← hsz]; exact Heap.get?_push_size _ rfl
  have keep : ∀ b o, s.heap.get? b = some o → (((s.heap.push (seqObj "list" #[] 0)).update s.heap.objs.size (Obj.mapSeq (· ++ (ts.map Value.ref).toArray))).push (seqObj "list" (ts.map Value.ref).toArray 0)).get? b = some o := fun b o q => by
    have hlt : b < s.heap.objs.size := Heap.lt_size q
    rw [Heap.get?_push_ne _ _ _ (by rw [hsz]; exact Nat.ne_of_lt (Nat.lt_succ_of_lt hlt)), Heap.get?_update_ne _ _ _ _ (Nat.ne_of_lt hlt), Heap.get?_push_ne _ _ _ (Nat.ne_of_lt hlt)]
    exact q
  show wpAny _ _ _ _ _ { s with heap := ((s.heap.push (seqObj "list" #[] 0)).update s.heap.objs.size (Obj.mapSeq (· ++ (ts.map Value.ref).toArray))).push (seqObj "list" (ts.map Value.ref).toArray 0) }
  rw [hsz]
  generalize ((s.heap.push (seqObj "list" #[] 0)).update s.heap.objs.size (Obj.mapSeq (· ++ (ts.map Value.ref).toArray))).push (seqObj "list" (ts.map Value.ref).toArray 0) = h1 at *
  have hns1 : h1.Ns L m := by
    obtain ⟨o, es, ep, g1, g2⟩ := hns
    exact ⟨o, es, ep, keep _ _ g1, g2⟩
  refine wpAny_bind (wpAny_holding (wpAny_call_entry slot_list_sort ⟨_, hoL, rfl⟩ entry_list_sort (sort_body (s := { s with heap := h1 }) R hns1 hoL (paired_imp (fun t z i => sk.keeps i fun b o xs n _ _ g => keep b o g) rel) h64 fun h2 c ts' zs' k2 ns2 g2 sub len pm srt => ⟨_, rfl, ?_⟩) (args_list_sort _)))
  refine wpAny_pure ⟨_, rfl, q h2 c ts' zs' (fun b o nb hb => k2 b o nb (Nat.ne_of_lt (Nat.lt_succ_of_lt (Heap.lt_size hb))) (keep b o hb)) ns2 g2 (paired_zip len fun p hp => zip_paired rel p (sub p.1 p.2 hp)) pm srt⟩
end
abbrev dR (K : PySem.W.Frag) (H : Hp) (t : Addr) (d : DK) : Prop := SqT K H t ((dKs d).map kV)
abbrev d3R (K : PySem.W.Frag) (H : Hp) (t : Addr) (k : D3) : Prop := ∃ b, SqT K H t [.int k.1, .str k.2.1, .ref b] ∧ dR K H b k.2.2
section
variable {X : Cx} {pins : List (Addr × Obj)} {σ : L2.St} {H : Hp} {s : Shared}
theorem dR.is (I : Inv X pins σ H s) {t : Addr} {d : DK} (h : dR X.K H t d) : IsDK s.heap d t := by
  obtain ⟨its, rv, ⟨o, h1, h2, n, h3⟩, hz⟩ := I.tuple h
  refine ⟨o, its, n, h1, h2, h3, ?_⟩
  obtain ⟨z, p⟩ := d
  cases p with
  | none =>
    obtain ⟨u, e, r⟩ := vals1 rv
    obtain ⟨t, rfl⟩ := r
    exact ⟨t, e⟩
  | some i =>
    obtain ⟨u1, u2, e, r1, r2⟩ := vals2 rv
    obtain ⟨t, rfl⟩ := r1
    obtain ⟨u, rfl⟩ := r2
    exact ⟨t, u, e⟩
theorem vls3 {a b c : V} {its : List Value} (h : Vals [a, b, c] its) : ∃ u1 u2 u3, its = [u1, u2, u3] ∧ RelV a u1 ∧ RelV b u2 ∧ RelV c u3 := by
  cases h with
  | cons r1 h =>
    cases h with
    | cons r2 h =>
      cases h with
      | cons r3 h => cases h; exact ⟨_, _, _, rfl, r1, r2, r3⟩
theorem d3R.is (I : Inv X pins σ H s) {t : Addr} {k : D3} (h : d3R X.K H t k) : Is3 s.heap k t := by
  obtain ⟨b, h1, h2⟩ := h
  obtain ⟨its, rv, ⟨o, g1, g2, n, g3⟩, hz⟩ := I.tuple h1
  obtain ⟨u1, u2, u3, e, r1, r2, r3⟩ := vls3 rv
  obtain ⟨t, rfl⟩ := r1
  obtain ⟨u, rfl⟩ := r2
  cases (show u3 = Value.ref b from r3)
  subst e
  exact ⟨o, t, u, b, n, g1, g2, g3, h2.is I⟩
end
def dedK {K : Type} [DecidableEq K] (d : K) (zs : List K) : List K := metK (fun i => zs.getD i d) zs.length
theorem metK_mem {K : Type} [DecidableEq K] (val : Nat → K) (z : K) : ∀ n, z ∈ metK val n ↔ ∃ i, i < n ∧ val i = z
  | 0 => by simp [metK]
  | n + 1 => by
    have ih := metK_mem val z n
    show z ∈ (if val n ∈ metK val n then metK val n else metK val n ++ [val n]) ↔ _
    have key : z ∈ (if val n ∈ metK val n then metK val n else metK val n ++ [val n]) ↔ z ∈ metK val n ∨ z = val n := by
      split
      · rename_i h
        exact ⟨fun a => .inl a, fun a => a.elim id fun e => e ▸ h⟩
      · rw [List.mem_append, List.mem_singleton]
    rw [key, ih]
    constructor
    · rintro (⟨i, a, b⟩ | e)
      · exact ⟨i, by omega, b⟩
      · exact ⟨n, by omega, e.symm⟩
    · rintro ⟨i, a, b⟩
      by_cases c : i = n
      · subst c; exact .inr b.symm
      · exact .inl ⟨i, by omega, b⟩
theorem metK_nd {K : Type} [DecidableEq K] (val : Nat → K) : ∀ n, (metK val n).Nodup
  | 0 => .nil
  | n + 1 => by
    have ih := metK_nd val n
    show (if val n ∈ metK val n then metK val n else metK val n ++ [val n]).Nodup
    split
    · exact ih
    · rename_i h
      rw [List.nodup_append]
      refine ⟨ih, by simp, fun a ha b hb => ?_⟩
      rw [List.mem_singleton] at hb
      subst hb
      rintro rfl
      exact h ha
theorem dedK_mem {K : Type} [DecidableEq K] (d : K) (zs : List K) (z : K) : z ∈ dedK d zs ↔ z ∈ zs := by
  unfold dedK
  rw [metK_mem]
  constructor
  · rintro ⟨i, h, rfl⟩
    simp [List.getD, h]
  · intro h
    obtain ⟨i, hi, e⟩ := List.mem_iff_getElem.mp h
    exact ⟨i, hi, by simp [List.getD, hi, e]⟩
theorem dedK_nd {K : Type} [DecidableEq K] (d : K) (zs : List K) : (dedK d zs).Nodup := metK_nd _ _
theorem dedK_len {K : Type} [DecidableEq K] (d : K) (zs : List K) : (dedK d zs).length ≤ zs.length := metK_len _ _
abbrev d30 : D3 := (0, "", "", none)
theorem refs_getElem {ts : List Addr} {i : Nat} {v : Value} (h : (ts.map Value.ref)[i]? = some v) : ∃ t, ts[i]? = some t ∧ v = .ref t := by
  rw [List.getElem?_map] at h
  cases e : ts[i]? with
  | none => rw [e] at h; cases h
  | some t => rw [e] at h; cases h; exact ⟨t, rfl, rfl⟩
inductive TSS3 (K : PySem.W.Frag) (H1 : Hp) (Q : V → Hp → Prop) : V → Prop where
  | mk (a : Addr) (ts : List Addr) (zs : List D3) (h1 : SqL K H1 a (ts.map V.ref)) (h2 : Paired (d3R K H1) ts zs) (h3 : zs.length < 64) (q : ∀ l ts' zs', H1 l = none → Paired (d3R K H1) ts' zs' → zs'.Perm (dedK d30 zs) → Srt lt3 zs' → Q (.ref l) (upd H1 l (.lst (ts'.map V.ref)))) : TSS3 K H1 Q (.ref a)
theorem pe_sortedSet3 {X : Cx} {e : Expr} {te : TE} {p1 p2 q1 q2 : Pos} (hc : X.calm = true) (hu : X.A.units + 20 < cLine) (hg : Gl X "sorted") (hm : X.mg "sorted" = none) (hg2 : Gl X "set") (hm2 : X.mg "set" = none) (he : PE X e te)
    (h1 : starEach [.Call (.Name "set" p2) [e] [] q2] X.env = (false, eval (.Call (.Name "set" p2) [e] [] q2) X.env) :: starEach [] X.env := by rfl) (h2 : starEach [e] X.env = (false, eval e X.env) :: starEach [] X.env := by rfl) :
    PE X (.Call (.Name "sorted" p1) [.Call (.Name "set" p2) [e] [] q2] [] q1) (fun σ H Q => te σ H fun x H1 => TSS3 X.K H1 Q x) := by
  intro pins s σ H Q I h
  have hh := I.ok.hd hc
  refine wpAny_Call_Name_kw (ld_blt I hg hm boot_sorted ?_)
  refine PyProof.Rows.callWith_builtin1 ?_ h1 rfl
  rw [h1]
  show wpAny _ _ (spliced ((false, eval (.Call (.Name "set" p2) [e] [] q2) X.env) :: backTo q1 (starEach [] X.env))) _ _ s
  refine Calls.spliced_cons ?_
  refine wpAny_Call_Name_kw (ld_blt I hg2 hm2 boot_setX ?_)
  refine PyProof.Rows.callWith_type1 ?_ h2 rfl
  rw [h2]
  show wpAny _ _ (spliced ((false, eval e X.env) :: backTo q2 (starEach [] X.env))) _ _ s
  refine Calls.spliced_cons (thn (he pins s σ H _ I h) fun u s1 ⟨x, H1, I1, r1, q1⟩ => ?_)
  obtain ⟨a, ts, zs, hq, rel, h64, q1⟩ := q1
  cases (show u = Value.ref a from r1)
  refine Calls.spliced_nil ?_
  obtain ⟨its, rv, pl, hz⟩ := I1.list hq
  have ei := refs_vals rv
  subst ei
  have lp := Paired.length rel
  let G : D3 → Addr → Prop := fun k t => d3R X.K H1 t k
  refine call_set_key (kd := (d3Kind X.prog X.w).wi G) (val := fun i => zs.getD i d30) hh (fun B hB => show B.units + 4 < cLine by omega) pl.isList (fun i v hv => ?_) (by simp; omega) fun h' tk T kp => ?_
  · have hv2 : (ts.map Value.ref)[i]? = some v := by rw [List.getElem?_toArray] at hv; exact hv
    obtain ⟨t, e1, rfl⟩ := refs_getElem hv2
    have hi : i < ts.length := (List.getElem?_eq_some_iff.mp e1).1
    have e2 : zs[i]? = some (zs.getD i d30) := by rw [List.getD, List.getElem?_eq_getElem (by omega)]; rfl
    obtain ⟨t', e3, e4⟩ := Paired.at_ rel i _ e2
    rw [e1] at e3
    cases e3
    exact ⟨t, rfl, d3R.is I1 e4, e4⟩
  · refine Calls.spliced_nil ?_
    have eds : metK (fun i => zs.getD i d30) (ts.map Value.ref).toArray.size = dedK d30 zs := by unfold dedK; simp [lp]
    rw [eds] at T
    have ldd := dedK_len d30 zs
    obtain ⟨m, hns, _⟩ := id I1.loc
    have hns' : h'.Ns X.env.locals m := by
      obtain ⟨o, es, ep, g1, g2⟩ := hns
      exact ⟨o, es, ep, kp _ _ (Heap.lt_size g1) g1, g2⟩
    have kp1 : Keep s1.heap h' := fun b o g => kp b o (Heap.lt_size g) g
    refine sorted_key (kd := (d3Kind X.prog X.w).wi G) (sk := (d3Sort X.prog X.w).wi G) (s := { s1 with heap := h', toks := tk }) rfl hh (show X.A.in1.in1.units + 2 < cLine by simp; omega) hns' kp1 T (by omega) fun h2 d tk2 l ee ts' zs' kp2 ns2 le2 he2 rel2 pm srt tk3 => ?_
    have kall : ∀ b u, b ≠ X.env.locals → s1.heap.get? b = some u → h2.get? b = some u := fun b u nb hb => kp2 b u nb (kp1 b u hb)
    have lel : s1.heap.objs.size ≤ l := by
      obtain ⟨oT, _, _, _, hoT, _⟩ := T
      exact Nat.le_trans (Nat.le_of_lt (Heap.lt_size hoT)) le2
    have l2 : ts'.length = zs'.length := Paired.length rel2
    have l3 := pm.length_eq
    refine ⟨.ref l, _, (I1.laidL (a := l) (o := .lst (ts'.map V.ref)) (t' := tk2) kall (fun m' hm => ?_) (get_ge lel) (I1.hok.fresh lel) (show ObjOk X.prog X.w _ _ _ (.lst (ts'.map V.ref)) from ⟨?_, ts'.map Value.ref, ee, vals_refs _, he2⟩)).drawn d, rfl, q1 l ts' zs' (I1.hok.fresh lel) (paired_imp (fun t z i => i.2) rel2) pm srt⟩
    · have e : m' = m := by
        obtain ⟨o, es, ep, ho, hdt, _, hf⟩ := hm
        obtain ⟨o2, es2, ep2, ho2, hdt2, _, hf2⟩ := hns
        rw [ho] at ho2
        cases ho2
        rw [hdt] at hdt2
        cases hdt2
        funext x
        rw [← hf x, ← hf2 x]
      rw [e]
      exact ns2
    · rw [List.length_map]
      exact fits (by omega)
end ST
namespace L2
open PySem PySem.W
section
variable {X : Cx} {pins : List (Addr × Obj)} {σ : St} {H : Hp} {s : Shared} {a : Addr} {kvs : List (Key × V)} {k : Key} {u : Value} {A : Around} {E : Value → Shared → Prop}
end
section
variable {X : Cx} {o e f : Expr} {apos cpos : Pos} {td ty tx : TE}
end
end L2
namespace L2
open PySem PySem.Spec PyProof.Rows
section
variable {prog : Program} {w : World} {A : Around} {E : Value → Shared → Prop}
theorem tk_keep {h h' : Heap} {ks : List Key} {a : Addr} (p : (tupleKind (mixKind prog w)).is h ks a) (k : ∀ b o, o.cls = .type "tuple" → h.get? b = some o → h'.get? b = some o) : (tupleKind (mixKind prog w)).is h' ks a :=
  let ⟨o, its, n, h1, h2, h3, h4⟩ := p; ⟨o, its, n, k a o h2 h1, h2, h3, h4⟩
def PairAtH (prog : Program) (w : World) (h : Heap) (u : Value) (kv : List Key × Addr × Value) : Prop :=
  ∃ t n o, u = .ref t ∧ (tupleKind (mixKind prog w)).is h kv.1 kv.2.1 ∧ h.get? t = some o ∧ o.cls = .type "tuple" ∧ o.data = .seq #[.ref kv.2.1, kv.2.2] n
theorem PairAtH.keep {h h' : Heap} {u : Value} {kv : List Key × Addr × Value} (p : PairAtH prog w h u kv) (k : ∀ b o, o.cls = .type "tuple" → h.get? b = some o → h'.get? b = some o) : PairAtH prog w h' u kv :=
  let ⟨t, n, o, a, b, c, d, e⟩ := p; ⟨t, n, o, a, tk_keep b k, k t o d c, d, e⟩
end
def fillT (kvs acc : List (List Key × V)) : List (List Key × V) := kvs.foldl (fun a p => putK a p.1 p.2) acc
section
variable {X : Cx} {pins : List (Addr × Obj)} {σ : St} {H : Hp} {s : Shared}
end
end L2
namespace L2
open PySem PySem.Spec PyProof.Rows
section
variable {prog : Program} {w : World} {A : Around} {E : Value → Shared → Prop} {s : Shared}
theorem iter_itemsR {v d : Addr} {o : Obj} {es : Array DictEntry} {ep : Nat} {Q : Value → Shared → Prop} (hv : s.heap.IsItemsView v d) (ho : s.heap.get? d = some o) (hdat : o.data = .dict es ep)
    (hQ : Q (.ref s.heap.objs.size) { s with heap := s.heap.push { cls := .type "dict_itemiterator", data := .fields #[.none, .bool false, .ref d, .int 0 0, .int es.size 0, .int ep 0, .none, .none] } }) :
    wpAny (model prog w) A (pyIter (.ref v)) Q E s := by
  obtain ⟨ov, hov, hcv, hdv⟩ := id hv
  refine wpAny_pyIter_slot hv.typeIs F.slot_dict_items_iter (wpAny_call_entry F.slot_dict_items_iter hv.typeIs F.entry_dict_items_iter ?_ (F.args_dict_items_iter_1 _))
  unfold Builtin.«dict_items.__iter__»
  refine wpAny_bind (wpAny_pure ?_)
  refine wpAny_bind ?_
  unfold Builtin.Dict_items.dictOf
  refine wpAny_bind (wpAny_field hov hdv (x := .ref d) rfl (wpAny_pure ?_))
  refine wpAny_bind ?_
  unfold Builtin.Dict_items.newIterator
  refine wpAny_bind (wpAny_dictEntries ho hdat ?_)
  refine wpAny_bind (wpAny_dictEpoch ho hdat ?_)
  have hown : Builtin.Dict_items.ownsTuple "dict_itemiterator" = true := by decide
  simp only [hown, if_true]
  refine wpAny_newObj_type (wpAny_pure ⟨_, rfl, "dict_itemiterator", _, ⟨_, Heap.get?_push_size _ rfl, rfl⟩, F.slot_dict_itemiterator_next.lookup, ?_⟩)
    (by simp only [sizeOk, Builtin.Dict_items.ownedTupleFields, List.size_toArray, List.length_append, List.length_cons, List.length_nil, sizeLine_eq]; omega)
  simpa [rawInt, Builtin.Dict_items.ownedTupleFields] using hQ
theorem next_itemsR {it d : Addr} {i ep : Nat} {od : Obj} {es : Array DictEntry} {e : DictEntry} {ok ov : Value} {Q : Option Value → Shared → Prop} (hit : IsItemIter s.heap it d i es.size ep ok ov)
    (hod : s.heap.get? d = some od) (hdd : od.data = .dict es ep) (hx : es[i]? = some e)
    (hQ : ∀ h', IsItemIterOut h' it d (i + 1) es.size ep e.key e.val s.heap.objs.size →
      h'.get? s.heap.objs.size = some { cls := .type "tuple", data := .seq #[e.key, e.val] } → h'.objs.size = s.heap.objs.size + 1 →
      (∀ b o, b ≠ it → s.heap.get? b = some o → h'.get? b = some o) → Q (some (.ref s.heap.objs.size)) { s with heap := h' }) :
    wpAny (model prog w) A (pyNext (.ref it)) Q E s := by
  obtain ⟨hp, g, dr, tk, os⟩ := s
  have hT : Shared.TypeIs ⟨hp, g, dr, tk, os⟩ (.ref it) "dict_itemiterator" := ⟨_, hit, rfl⟩
  unfold pyNext
  refine wpAny_bind (wpAny_attempt (wpAny_callSpecial?_slot (name := Str.ofString "__next__") hT F.slot_dict_itemiterator_next
    (wpAny_call_entry F.slot_dict_itemiterator_next hT F.entry_dict_itemiterator_next ?_ (F.args_dict_itemiterator_next_1 _))))
  refine wpAny_bind (wpAny_pure ?_)
  refine wpAny_bind ?_
  refine wpAny_bind ?_
  first | refine wpAny_bind (wpAny_typeNameOfWhole_itemiter hT (wpAny_pure ?_)) | refine wpAny_bind (wpAny_typeNameOf_itemiter hT (wpAny_pure ?_))
  refine wpAny_bind (wpAny_fieldsOf hit rfl ?_)
  have hown : Builtin.Dict_items.ownsTuple "dict_itemiterator" = true := by decide
  simp only [hown, if_true]
  show wpAny _ _ (if (Value.ref d == Value.none) = true then _ else _) _ _ _
  rw [if_neg (show ¬ ((Value.ref d == Value.none) = true) from Bool.false_ne_true)]
  refine wpAny_bind (wpAny_pure ?_)
  refine wpAny_bind (wpAny_dictEntries hod hdd ?_)
  rw [if_neg (by simp)]
  refine wpAny_bind (wpAny_pure ?_)
  refine wpAny_bind (wpAny_dictEpoch hod hdd ?_)
  rw [if_neg (by simp)]
  refine wpAny_pure ?_
  have hlt' : i < es.size := (Array.getElem?_eq_some_iff.mp hx).1
  have hev : es[i] = e := (Array.getElem?_eq_some_iff.mp hx).2
  simp only [show ¬ ((i : Int) < 0) from by omega, if_false, Int.toNat_natCast, Array.getElem?_eq_getElem hlt']
  refine wpAny_bind ?_
  first | refine wpAny_bind (wpAny_typeNameOfWhole_itemiter hT (wpAny_pure ?_)) | refine wpAny_bind (wpAny_typeNameOf_itemiter hT (wpAny_pure ?_))
  refine wpAny_bind (wpAny_isOneOf_itemiter hT ?_)
  show wpAny _ _ (setField (.ref it) 3 (rawInt ((i : Int) + 1)) >>= _) _ _ ⟨hp, g, dr, tk, os⟩
  refine wpAny_bind (wpAny_setField_rec hit (by simp) fun h₁ he₁ hs₁ => ?_)
  replace hs₁ : Heap.SameBut it hp h₁ := hs₁
  replace he₁ : IsItemIter h₁ it d (i + 1) es.size ep ok ov := by
    have e : ((i + 1 : Nat) : Int) = (i : Int) + 1 := by omega
    unfold IsItemIter; rw [e]; simpa [rawInt] using he₁
  have hT₁ : Shared.TypeIs ⟨h₁, g, dr, tk, os⟩ (.ref it) "dict_itemiterator" := ⟨_, he₁, rfl⟩
  refine wpAny_bind (wpAny_holding ?_)
  refine wpAny_bind (wpAny_isOneOf_itemiter hT₁ ?_)
  refine wpAny_bind (wpAny_isOneOf_itemiter hT₁ ?_)
  show wpAny _ _ (Builtin.Dict_items.pairFromOwner (.ref it) 6 es[i].key es[i].val) _ _ ⟨h₁, g, dr, tk, os⟩
  unfold Builtin.Dict_items.pairFromOwner
  refine wpAny_bind (wpAny_newTuple ?_)
  have he₂ : IsItemIter (h₁.push { cls := .type "tuple", data := .seq #[es[i].key, es[i].val] }) it d (i + 1) es.size ep ok ov := Heap.get?_push_of_some _ he₁
  generalize hh₂ : h₁.push { cls := .type "tuple", data := .seq #[es[i].key, es[i].val] } = h₂ at he₂
  have hz₁ : h₁.objs.size = hp.objs.size := hs₁.1
  have hil : it < hp.objs.size := Heap.lt_size hit
  have ht₂ : h₂.get? hp.objs.size = some { cls := .type "tuple", data := .seq #[es[i].key, es[i].val] } := by rw [← hh₂, ← hz₁]; exact Heap.get?_push_size _ rfl
  have hz₂ : h₂.objs.size = hp.objs.size + 1 := by rw [← hh₂, Heap.size_push, hz₁]
  have hk₂ : ∀ b o, b ≠ it → hp.get? b = some o → h₂.get? b = some o := fun b o hb e => by rw [← hh₂]; exact Heap.get?_push_of_some _ (hs₁.extBut b o hb e)
  show wpAny _ _ (Builtin.Dict_items.ownedTupleIsFree (.ref it) >>= _) _ _ ⟨h₂, g, dr, tk, os⟩
  rw [hz₁]
  clear hh₂ he₁ hs₁ hT₁ hz₁ h₁
  refine wpAny_bind ?_
  unfold Builtin.Dict_items.ownedTupleIsFree
  refine wpAny_bind (wpAny_field he₂ rfl (x := .none) rfl (wpAny_pure ?_))
  simp only [if_true]
  refine wpAny_bind (wpAny_field he₂ rfl (x := ok) rfl ?_)
  refine wpAny_bind (wpAny_field he₂ rfl (x := ov) rfl ?_)
  refine wpAny_bind (wpAny_setField_rec he₂ (by simp) fun h₃ he₃ hs₃ => ?_)
  replace hs₃ : Heap.SameBut it h₂ h₃ := hs₃
  replace he₃ : IsItemIter h₃ it d (i + 1) es.size ep es[i].key ov := he₃
  refine wpAny_bind (wpAny_setField_rec he₃ (by simp) fun h₄ he₄ hs₄ => ?_)
  replace hs₄ : Heap.SameBut it h₃ h₄ := hs₄
  replace he₄ : IsItemIter h₄ it d (i + 1) es.size ep es[i].key es[i].val := he₄
  refine wpAny_bind (wpAny_setField_rec he₄ (by simp) fun h₅ he₅ hs₅ => ?_)
  replace hs₅ : Heap.SameBut it h₄ h₅ := hs₅
  replace he₅ : IsItemIterOut h₅ it d (i + 1) es.size ep es[i].key es[i].val hp.objs.size := he₅
  refine wpAny_bind (wpAny_setField_rec he₅ (by simp) fun h₆ he₆ hs₆ => ?_)
  replace hs₆ : Heap.SameBut it h₅ h₆ := hs₆
  replace he₆ : IsItemIterOut h₆ it d (i + 1) es.size ep es[i].key es[i].val hp.objs.size := he₆
  refine wpAny_bind (wpAny_letGo (wpAny_pure (wpAny_pure ⟨_, rfl, wpAny_pure (hQ h₆ (hev ▸ he₆) ?_ ?_ ?_)⟩)))
  · rw [← hev]; exact hs₆.extBut _ _ (Nat.ne_of_gt hil) (hs₅.extBut _ _ (Nat.ne_of_gt hil) (hs₄.extBut _ _ (Nat.ne_of_gt hil) (hs₃.extBut _ _ (Nat.ne_of_gt hil) ht₂)))
  · show h₆.objs.size = hp.objs.size + 1
    rw [hs₆.1, hs₅.1, hs₄.1, hs₃.1, hz₂]
  · exact fun b o hb e => hs₆.extBut b o hb (hs₅.extBut b o hb (hs₄.extBut b o hb (hs₃.extBut b o hb (hk₂ b o hb e))))
theorem end_itemsR {it d : Addr} {i ep : Nat} {od : Obj} {es : Array DictEntry} {ok ov : Value} {Q : Option Value → Shared → Prop} (hh : A.handled = none) (hit : IsItemIter s.heap it d i es.size ep ok ov)
    (hod : s.heap.get? d = some od) (hdd : od.data = .dict es ep) (hx : es.size ≤ i)
    (hQ : ∀ h', Heap.ExtBut it s.heap h' → Q none { s with heap := h' }) : wpAny (model prog w) A (pyNext (.ref it)) Q E s := by
  have hT : s.TypeIs (.ref it) "dict_itemiterator" := ⟨_, hit, rfl⟩
  unfold pyNext
  refine wpAny_bind (wpAny_attempt (wpAny_callSpecial?_slot (name := Str.ofString "__next__") hT F.slot_dict_itemiterator_next
    (wpAny_call_entry F.slot_dict_itemiterator_next hT F.entry_dict_itemiterator_next ?_ (F.args_dict_itemiterator_next_1 _))))
  refine wpAny_bind (wpAny_pure ?_)
  refine wpAny_bind ?_
  refine wpAny_bind ?_
  first | refine wpAny_bind (wpAny_typeNameOfWhole_itemiter hT (wpAny_pure ?_)) | refine wpAny_bind (wpAny_typeNameOf_itemiter hT (wpAny_pure ?_))
  refine wpAny_bind (wpAny_fieldsOf hit rfl ?_)
  have hown : Builtin.Dict_items.ownsTuple "dict_itemiterator" = true := by decide
  simp only [hown, if_true]
  show wpAny _ _ (if (Value.ref d == Value.none) = true then _ else _) _ _ s
  rw [if_neg (show ¬ ((Value.ref d == Value.none) = true) from Bool.false_ne_true)]
  refine wpAny_bind (wpAny_pure ?_)
  refine wpAny_bind (wpAny_dictEntries hod hdd ?_)
  rw [if_neg (by simp)]
  refine wpAny_bind (wpAny_pure ?_)
  refine wpAny_bind (wpAny_dictEpoch hod hdd ?_)
  rw [if_neg (by simp)]
  refine wpAny_pure ?_
  have hge : es.size ≤ i := hx
  simp only [show ¬ ((i : Int) < 0) from by omega, if_false, Int.toNat_natCast, Array.getElem?_eq_none hge]
  refine wpAny_bind ?_
  first | refine wpAny_bind (wpAny_typeNameOfWhole_itemiter hT (wpAny_pure ?_)) | refine wpAny_bind (wpAny_typeNameOf_itemiter hT (wpAny_pure ?_))
  show wpAny _ _ (setField (.ref it) 2 .none >>= _) _ _ s
  refine wpAny_bind (wpAny_setField hit rfl (by simp) ?_)
  show wpAny _ _ (newExc (.type "StopIteration") [] >>= _) _ _ _
  refine wpAny_bind ?_
  simp only [newExc, newTuple]
  refine wpAny_bind (wpAny_newObj_type ?_ (by size_fits))
  refine wpAny_bind (m := firstArgMember _ _) (wpAny_of_eq (a := Value.none) (by first | rfl | (simp only [firstArgMember]; rfl)) ?_)
  refine wpAny_newObj_type ?_ (by size_fits)
  simp only [raiseNew]
  refine wpAny_bind (wpAny_handled ?_)
  rw [show A.in1.handled = none from hh]
  refine wpAny_bind (wpAny_pure (wpAny_throw ?_))
  refine wpAny_bind (wpAny_isInstance (T := "StopIteration") (b := true) ⟨_, Heap.get?_push_size _ rfl, rfl⟩ isSubtype_stop ?_)
  exact wpAny_pure (hQ _ (((Heap.SameBut.update ..).extBut.push _).push _))
theorem setdef_heap {K : Type} [DecidableEq K] {knd : HeapKind prog w K} {d a : Addr} {xs : List (K × Addr × Value)} {k : K} {v : Value} {Q : Value → Shared → Prop} (hu : knd.room A) (hkey : knd.is s.heap k a) (hm : s.heap.DictOfH knd d xs) (hsz : xs.length ≤ sizeLine)
    (q1 : ∀ p, atKey xs k = some p → Q p.2 { s with toks := s.toks + knd.draws k }) (q2 : atKey xs k = none → ∀ h', h'.DictOfH knd d (storedH xs k a v) → Heap.SameBut d s.heap h' → Q v { s with heap := h', toks := s.toks + knd.draws k }) :
    wpAny (model prog w) A (dictSetDefault d (.ref a) v) Q E s := by
  obtain ⟨o, es, ep, ho, hc, hd, he, his, hn⟩ := hm
  unfold dictSetDefault
  try with_reducible refine wpAny_holding ?_
  refine wpAny_bind (knd.pyHash hu hkey ?_)
  refine wpAny_bind (wpAny_dictFind_heap (s := { s with toks := s.toks + knd.draws k }) hu hkey ho hd he his hn ?_ ?_)
  · intro hno
    have hnot : k ∉ xs.map (·.1) := not_mem_keys_of_get hno
    refine wpAny_bind (wpAny_rule (wpAny_bind (wpAny_updateDictKeys (hz := by have e := size_of_entries he; omega) (s := { s with toks := s.toks + knd.draws k }) ho hd (wpAny_pure (q2 (atKey_none_of_get hno) _ ⟨_, _, ep + 1, Heap.get?_update_self _ ho (Obj.isFreed_of_dict (Obj.data_mapDictKeys hd _)),
      hc.mapDictKeys _, Obj.data_mapDictKeys hd _, ?_, ?_, ?_⟩ (Heap.SameBut.update ..))))))
    · rw [storedH_new (atKey_none_of_get hno)]
      simp [he, entryOfKey]
    · rw [storedH_new (atKey_none_of_get hno)]
      intro x hx
      rcases List.mem_append.mp hx with hx | hx
      · exact knd.keeps (his x hx) ho hd (Heap.SameBut.update ..)
      · simp only [List.mem_singleton] at hx
        subst hx
        exact knd.keeps hkey ho hd (Heap.SameBut.update ..)
    · rw [storedH_new (atKey_none_of_get hno)]
      rw [List.map_append, List.nodup_append]
      refine ⟨hn, by simp, ?_⟩
      intro x hx y hy
      simp only [List.map_cons, List.map_nil, List.mem_singleton] at hy
      subst hy
      exact fun e => hnot (e ▸ hx)
  · intro j p hj
    dsimp only
    refine wpAny_bind (wpAny_dictEntries ho hd ?_)
    rw [entry_at he j, hj]
    dsimp only [Option.map]
    exact wpAny_bind (wpAny_rule (wpAny_pure (q1 p (atKey_of_get hn hj))))
theorem call_setdef_heap {K : Type} [DecidableEq K] {knd : HeapKind prog w K} {d a : Addr} {xs : List (K × Addr × Value)} {k : K} {v : Value} {Q : Value → Shared → Prop} (hd : (d == sysModules) = false) (hu : knd.room A.in1) (hkey : knd.is s.heap k a) (hm : s.heap.DictOfH knd d xs) (hsz : xs.length ≤ sizeLine)
    (q1 : ∀ p, atKey xs k = some p → Q p.2 { s with toks := s.toks + knd.draws k }) (q2 : atKey xs k = none → ∀ h', h'.DictOfH knd d (storedH xs k a v) → Heap.SameBut d s.heap h' → Q v { s with heap := h', toks := s.toks + knd.draws k }) :
    wpAny (model prog w) A (call (.builtin "dict.setdefault") [.ref d, .ref a, v]) Q E s := by
  refine wpAny_call_entry PySem.F.slot_dict_setdefault hm.typeIs PySem.F.entry_dict_setdefault ?_ (PySem.F.args_dict_setdefault_3 _ _ _)
  unfold Builtin.«dict.setdefault»
  refine wpAny_bind ?_
  unfold Builtin.Dict.keyAndDefault
  refine wpAny_bind (wpAny_notOrdered_dict hm.typeIs ?_)
  show wpAny _ _ (pure (d, Value.ref a, some v)) _ _ s
  refine wpAny_pure ?_
  show wpAny _ _ (if (d == sysModules) = true then _ else (dictSetDefault d (.ref a) v >>= _)) _ _ s
  rw [if_neg (by rw [hd]; exact Bool.false_ne_true)]
  exact wpAny_bind (setdef_heap hu hkey hm hsz (fun p hp => wpAny_pure ⟨_, rfl, q1 p hp⟩) fun hn h' hm' hs' => wpAny_pure ⟨_, rfl, q2 hn h' hm' hs'⟩)
end
section
variable {X : Cx} {pins : List (Addr × Obj)} {σ : L2.St} {H : Hp} {s : Shared} {a b : Addr} {kvs : List (List Key × V)} {k : List Key} {A : Around} {E : Value → Shared → Prop}
theorem d_setdT {z : V} {r : Value} {Q : Value → Shared → Prop} (hu : A.units + 1 < cLine) (I : Inv X pins σ H s) (e : H a = some (.dT kvs)) (hl : kvs.length < sizeLine) (eb : H b = some (.tup (k.map kV))) (rz : RelV z r)
    (h1 : ∀ v w' s', valV kvs k = some v → Inv X pins σ H s' → RelV v w' → Q w' s') (h2 : valV kvs k = none → ∀ s', Inv X pins σ (upd H a (.dT (putK kvs k z))) s' → Q r s') :
    wpAny (model X.prog X.w) A (call (.builtin "dict.setdefault") [.ref a, .ref b, r]) Q E s := by
  obtain ⟨zl, hd, xs, rel, dd⟩ := dt_of I.hok e
  have hz : xs.length ≤ sizeLine := by rw [← Paired.length rel]; exact zl
  refine call_setdef_heap hd (tupleKind_room_in1 hu) (key_of I.hok eb) dd hz (fun p hp => ?_) fun hn h' dd' hs => ?_
  · have rv := rel.val k
    rw [hp] at rv
    cases e2 : valV kvs k with
    | none => rw [e2] at rv; cases rv
    | some x => rw [e2] at rv; exact h1 x p.2 _ e2 (I.tok _) rv
  · have hn2 : valV kvs k = none := by
      have rv := rel.val k
      rw [hn] at rv
      cases e2 : valV kvs k with
      | none => rfl
      | some x => rw [e2] at rv; cases rv
    have hl2 : (putK kvs k z).length ≤ sizeLine := by have := length_putK kvs k z; omega
    obtain ⟨q, es, ep, hq, h2', h3, h4, _, h5⟩ := dd'
    refine h2 hn2 _ (d_write I (by rw [e]; exact True.intro) hs ⟨q, hq⟩ ⟨hl2, hd, _, (rel.put k eb rz).keeps fun c ys ec => ?_, q, es, ep, hq, h2', h3, h4, h5⟩)
    rw [upd_ne (ne_of ec e (fun z => nomatch z))]
    exact ec
end
section
variable {X : Cx} {o e f : Expr} {apos cpos : Pos} {td ty tx : TE}
inductive XSdT (H3 : Hp) (a : Addr) (Q : V → Hp → Prop) (z : V) : V → Prop where
  | mk (kvs : List (List Key × V)) (k : List Key) (b : Addr) (h1 : H3 a = some (.dT kvs)) (h2 : H3 b = some (.tup (k.map kV))) (h3 : kvs.length < sizeLine) (q1 : ∀ v, valV kvs k = some v → Q v H3) (q2 : valV kvs k = none → Q z (upd H3 a (.dT (putK kvs k z)))) : XSdT H3 a Q z (.ref b)
theorem pe_dsetdT (hu : X.A.units + 1 < cLine) (ho : PE X o td) (he : PE X e ty) (hf : PE X f tx) (m : M2 X o "setdefault" apos e f cpos) : PE X (.Call (.Attribute o "setdefault" apos) [e, f] [] cpos) (fun σ H Q => td σ H fun x H1 => ∃ a, x = .ref a ∧ IsD H1 a ∧ ty σ H1 fun y H2 => tx σ H2 fun z H3 => XSdT H3 a Q z y) := by
  intro pins s σ H Q I h
  refine wpAny_Call_method m.base m.few m.line PySem.F.plainAttrs_dict PySem.F.slot_dict_setdefault PySem.F.type_dict_setdefault (thn (ho pins s σ H _ I h) fun u s1 ⟨x, H1, I1, rx, a, ex, d, q1⟩ => ?_)
  subst ex
  obtain rfl : u = Value.ref a := rx
  obtain ⟨t1, t2, _⟩ := isD_at I1 d
  refine ⟨t1, t2, ?_⟩
  rw [m.trees]
  refine Calls.callWith_builtin rfl (Calls.evalArgs_plain (Calls.spliced_cons (thn (he pins s1 σ H1 _ I1 q1) fun iv s2 ⟨y, H2, I2, ry, q2⟩ =>
    Calls.spliced_cons (thn (hf pins s2 σ H2 _ I2 q2) fun fv s3 ⟨z, H3, I3, rz, q3⟩ => Calls.spliced_nil ?_))))
  obtain ⟨kvs, k, b, ea, eb, hl, q3, q4⟩ := q3
  cases (show iv = Value.ref b from ry)
  exact d_setdT hu I3 ea hl eb rz (fun v w' s4 l I4 rw' => ⟨v, _, I4, rw', q3 v l⟩) fun l s4 I4 => ⟨z, _, I4, rz, q4 l⟩
end
end L2
namespace L2
open PySem PySem.Spec PyProof.Rows
def Iti (d : Addr) (o : Obj) (kvs : List (List Key × V)) : It :=
  ⟨fun i H => H d = some (.frz o (.dT kvs)) ∧ i < kvs.length, fun i H x H' => ∃ t b kv, x = .ref t ∧ H t = none ∧ kvs[i]? = some kv ∧ H b = some (.tup (kv.1.map kV)) ∧ H' = upd H t (.tup [.ref b, kv.2]), fun i H => H d = some (.frz o (.dT kvs)) ∧ kvs.length ≤ i⟩
theorem frzT_at {X : Cx} {pins : List (Addr × Obj)} {σ : L2.St} {H : Hp} {s : Shared} {d : Addr} {o : Obj} {kvs : List (List Key × V)} (I : Inv X pins σ H s) (e : H d = some (.frz o (.dT kvs))) :
    (d == sysModules) = false ∧ ∃ xs es, KT H kvs xs ∧ s.heap.get? d = some o ∧ o.data = .dict es (epOf o) ∧ es.toList = xs.map (entryOfKey (tupleKind (mixKind X.prog X.w))) := by
  obtain ⟨ho, hz, hs, xs, r, o', es, ep, h1, h2, h3, h4, h5⟩ := (show ObjOk X.prog X.w H s.heap d (.frz o (.dT kvs)) from I.hok d _ e)
  rw [ho] at h1
  cases h1
  refine ⟨hs, xs, es, r, ho, ?_, h4⟩
  unfold epOf
  rw [h3]
theorem turn_items {P : Program} {w : World} {K : PySem.W.Frag} {elts : List Expr} {k : Nat} {tpos : Pos} (d it : Addr) (o : Obj) (kvs : List (List Key × V)) : Turn P w K (.Tuple elts k tpos) (Iti d o kvs) [it] it (fun i h => ∃ ok ov, IsItemIter h it d i kvs.length (epOf o) ok ov) where
  mem := by simp
  obj := fun i h st b hb => by
    have e : b = it := by simpa using hb
    subst e
    obtain ⟨ok, ov, e⟩ := st
    exact ⟨_, e, fun v z => by cases z⟩
  keep := fun i h h' st k => let ⟨ok, ov, e⟩ := st; ⟨ok, ov, k it (by simp) _ e⟩
  item := by
    intro X hP hw hK hc i pins s σ H E I hf st hg
    subst hP hw hK
    obtain ⟨hq, hi⟩ := hg
    obtain ⟨hs, xs, es, r, ho, hd, he⟩ := frzT_at I hq
    have l : kvs.length = xs.length := Paired.length r
    have sz := size_of_entries he
    obtain ⟨kv, ekv⟩ : ∃ kv, kvs[i]? = some kv := ⟨kvs[i], List.getElem?_eq_getElem hi⟩
    have ex0 : xs[i]? = some (xs[i]'(by omega)) := List.getElem?_eq_getElem (by omega)
    obtain ⟨kv', e1, e2, e3, e4⟩ := Paired.at_ r i _ ex0
    rw [ekv] at e1
    cases e1
    have ee := entry_at he i
    rw [ex0] at ee
    obtain ⟨ok, ov, st⟩ := st
    rw [show kvs.length = es.size by omega] at st
    obtain ⟨f0, f1, f2, f3, f4, f5⟩ := hf it (by simp)
    refine next_itemsR st ho hd ee fun h' so ht hz kk => ⟨_, rfl, ?_⟩
    refine wpAny_letOwnedTupleGo_items (s := { s with heap := h' }) so fun h3 st3 sb => ?_
    have ltz : ∀ b o, s.heap.get? b = some o → b ≠ s.heap.objs.size := fun b o q => Nat.ne_of_lt (Heap.lt_size q)
    have nit : s.heap.objs.size ≠ it := (ltz it _ st).symm
    have k3 : ∀ b o, b ∉ [it] → s.heap.get? b = some o → h3.get? b = some o := fun b o nb q => by
      simp only [List.mem_cons, List.not_mem_nil, or_false] at nb
      exact (sb.2 b nb).trans (kk b o nb q)
    have T2 : IsPair h3 s.heap.objs.size (.ref (xs[i]'(by omega)).2.1) (xs[i]'(by omega)).2.2 := (sb.2 _ nit).trans ht
    have I2 : Inv X pins σ (upd H s.heap.objs.size (.tup [.ref (xs[i]'(by omega)).2.1, kv.2])) { s with heap := h3, toks := s.toks } := Inv.turnedT I hf k3 T2 rfl e4
    refine ⟨.ref s.heap.objs.size, _, I2, rfl, ⟨_, _, kv, rfl, I.hok.fresh (Nat.le_refl _), ekv, e3, rfl⟩, ⟨_, _, by rw [show kvs.length = es.size by omega]; exact st3⟩, fun b hb => ?_⟩
    have e : b = it := by simpa using hb
    subst e
    rw [upd_ne (Ne.symm nit)]
    exact f0
  done := by
    intro X hP hw hK hc i pins s σ H E I hf st hg
    subst hP hw hK
    obtain ⟨hq, hi⟩ := hg
    obtain ⟨hs, xs, es, r, ho, hd, he⟩ := frzT_at I hq
    have l : kvs.length = xs.length := Paired.length r
    have sz := size_of_entries he
    obtain ⟨ok, ov, st⟩ := st
    rw [show kvs.length = es.size by omega] at st
    obtain ⟨f0, f1, f2, f3, f4, f5⟩ := hf it (by simp)
    exact end_itemsR (I.ok.hd hc) st ho hd (by omega) fun h' eb => ⟨rfl, I.turned (t' := s.toks) (fun b o hb e => eb b o hb e) f0 f1 f3 f4 f5⟩
  self := fun _ _ _ _ _ st h => by
    obtain ⟨ok, ov, e⟩ := st
    exact PySem.W.kcp_self e h
structure M0i (X : Cx) (o : Expr) (apos cpos : Pos) : Prop where
  base : attributeBase o "items" X.env (eval o X.env) = eval o X.env
  line : (apos.endLine == cpos.line) = true
def iItems (tl : TE) : TI := fun σ H R => tl σ H fun x H1 => ∃ d kvs, x = .ref d ∧ H1 d = some (.dT kvs) ∧ ∀ o, R (Iti d o kvs) (upd H1 d (.frz o (.dT kvs)))
theorem pi_items {X : Cx} {elts : List Expr} {k : Nat} {tpos apos cpos : Pos} {l : Expr} {tl : TE} (hl : PE X l tl) (m : M0i X l apos cpos) : PI X (.Tuple elts k tpos) (.Call (.Attribute l "items" apos) [] [] cpos) (iItems tl) := by
  intro pins s σ H R I h
  refine wpAny_Call_method (T := "dict") (id := "dict.items") m.base rfl m.line F.plainAttrs_dict F.slot_dict_items F.type_dict_items (thn (hl pins s σ H _ I h) fun v s1 ⟨x, H1, I1, r1, q1⟩ => ?_)
  obtain ⟨d, kvs, e, hd, q⟩ := q1
  subst e
  cases (show v = Value.ref d from r1)
  obtain ⟨hz, hs, xs, r, o, es, ep, h1, h2, h3, h4, h5⟩ := (show ObjOk X.prog X.w H1 s1.heap d (.dT kvs) from I1.hok d _ hd)
  have tI : s1.TypeIs (.ref d) "dict" := ⟨o, h1, h2.1⟩
  refine ⟨tI, fun b e => ?_, ?_⟩
  · cases e; exact ⟨o, h1, h2.2.1⟩
  have I2 : Inv X pins σ (upd H1 d (.frz o (.dT kvs))) { s1 with heap := s1.heap, toks := s1.toks } := I1.write (x := d) (e := d) (by rw [hd]; exact True.intro) (.inl rfl) (fun b u _ e => e) ⟨o, h1⟩ ⟨h1, hz, hs, xs, KT.keeps r fun c ys ec => (by rw [upd_ne (ne_of ec hd (fun z => nomatch z))]; exact ec), o, es, ep, h1, h2, h3, h4, h5⟩
  have e2 : upd H1 d (.frz o (.dT kvs)) d = some (.frz o (.dT kvs)) := upd_same
  have q2 := q o
  generalize upd H1 d (.frz o (.dT kvs)) = H2 at I2 e2 q2
  show wpAny _ _ (callWith cpos (.builtin "dict.items") [.ref d] [] []) _ _ s1
  refine Calls.callWith_builtin rfl (PySem.evalArgs_none ?_)
  refine wpAny_call_entry F.slot_dict_items tI F.entry_dict_items ?_ (F.args_dict_items_1 _)
  unfold Builtin.«dict.items»
  refine wpAny_bind ?_
  unfold Builtin.Dict.noArgs
  refine wpAny_bind (wpAny_notOrdered_dict tI ?_)
  show wpAny _ _ (pure d) _ _ s1
  refine wpAny_pure ?_
  show wpAny _ _ (Builtin.Dict.showsAll d >>= _) _ _ s1
  unfold Builtin.Dict.showsAll
  rw [if_neg (by rw [hs]; exact Bool.false_ne_true)]
  refine wpAny_bind (wpAny_pure ?_)
  refine wpAny_bind (wpAny_newObj_type (wpAny_pure ⟨_, rfl, ?_⟩))
  have ho : (s1.heap.push { cls := .type "dict_items", data := .fields #[.ref d] }).get? d = some o := Heap.get?_push_of_some _ h1
  refine iter_itemsR (s := { s1 with heap := s1.heap.push { cls := .type "dict_items", data := .fields #[.ref d] } }) ⟨_, Heap.get?_push_size _ rfl, rfl, rfl⟩ ho h3 ?_
  have sz := size_of_entries h4
  have l2 : kvs.length = xs.length := Paired.length r
  have k2 : ∀ b u, s1.heap.get? b = some u → ((s1.heap.push { cls := .type "dict_items", data := .fields #[.ref d] }).push { cls := .type "dict_itemiterator", data := .fields #[.none, .bool false, .ref d, .int 0 0, .int es.size 0, .int ep 0, .none, .none] }).get? b = some u := fun b u e => Heap.get?_push_of_some _ (Heap.get?_push_of_some _ e)
  have szp : (s1.heap.push { cls := .type "dict_items", data := .fields #[.ref d] }).objs.size = s1.heap.objs.size + 1 := Heap.size_push _ _
  refine ⟨_, [_], _, _, H2, rfl, I2.kept (t' := s1.toks) k2, turn_items d _ o kvs, ⟨.none, .none, ?_⟩, fun b hb => ?_, q2⟩
  · have ee : epOf o = ep := by unfold epOf; rw [h3]
    rw [ee, show kvs.length = es.size by omega]
    exact Heap.get?_push_size _ rfl
  · have e : b = (s1.heap.push { cls := .type "dict_items", data := .fields #[.ref d] }).objs.size := by simpa using hb
    subst e
    rw [szp]
    exact I2.fpOk (Nat.le_succ _) (I2.hok.fresh (Nat.le_succ _))
section
variable {d D : Addr} {o : Obj} {kvs : List (List Key × V)} {ts : List Str} {js : List (Nat × Str)} {g : TG} {tif : TT} {te : TE} {R : Hp → Prop} {σ : L2.St} {H : Hp}
theorem compG_items (Pv : Nat → List V → L2.St → Hp → Prop) (h0 : Pv 0 [] (capS ts js σ) (upd H D (.lst []))) (hl : ∀ i ys σ H, i ≤ kvs.length → Pv i ys σ H → H d = some (.frz o (.dT kvs)))
    (hs : ∀ i kv ys σ H t b, kvs[i]? = some kv → Pv i ys σ H → H t = none → H b = some (.tup (kv.1.map kV)) → g (.ref t) σ (upd H t (.tup [.ref b, kv.2])) fun σ2 H2 => tif σ2 H2 fun b H3 => if b = true then te σ2 H3 fun y H4 => H4 D = some (.lst ys) ∧ ys.length < sizeLine ∧ Pv (i + 1) (ys ++ [y]) σ2 (upd H4 D (.lst (ys ++ [y]))) else Pv (i + 1) ys σ2 H3)
    (hd : ∀ ys σ H, Pv kvs.length ys σ H → R H) :
    ∃ W : Nat → Nat → List V → L2.St → Hp → Prop, (∃ m, W 0 m [] (capS ts js σ) (upd H D (.lst []))) ∧
  ∀ i m ys σ' H, W i m ys σ' H → ((Iti d o kvs).stop i H ∧ R H) ∨ ((Iti d o kvs).go i H ∧ ∃ m', m' < m ∧ ∀ x H', (Iti d o kvs).yld i H x H' → g x σ' H' fun σ2 H2 => tif σ2 H2 fun b H3 =>
    if b = true then te σ2 H3 fun y H4 => H4 D = some (.lst ys) ∧ ys.length < sizeLine ∧ W (i + 1) m' (ys ++ [y]) σ2 (upd H4 D (.lst (ys ++ [y]))) else W (i + 1) m' ys σ2 H3) := by
  refine ⟨fun i m ys σ H => m = kvs.length - i ∧ i ≤ kvs.length ∧ Pv i ys σ H, ⟨kvs.length, by simp, Nat.zero_le _, h0⟩, ?_⟩
  rintro i m ys σ' H ⟨rfl, hi, p⟩
  have q := hl i ys σ' H hi p
  by_cases hlt : i < kvs.length
  · refine .inr ⟨⟨q, hlt⟩, kvs.length - (i + 1), by omega, fun x H' y => ?_⟩
    obtain ⟨t, b, kv, rfl, ht, ekv, hb, rfl⟩ := y
    have z := hs i kv ys σ' _ t b ekv p ht hb
    have h1 : (i + 1 ≤ kvs.length) = True := eq_true hlt
    simp only [h1, true_and]
    exact z
  · have e : i = kvs.length := by omega
    subst e
    exact .inl ⟨⟨q, Nat.le_refl _⟩, hd ys σ' H p⟩
end
end L2
namespace L2
open PySem PySem.Spec PyProof.Rows
theorem strsFrom_rel : ∀ (tk : Nat) (ts : List Str), Vals (ts.map V.str) (strsFrom tk ts)
  | _, [] => .nil
  | tk, z :: ts => .cons ⟨tk, rfl⟩ (strsFrom_rel (tk + 1) ts)
def rSplit : V → List V → Hp → VK → Prop := fun x vs H Q => ∃ z y : Str, x = .str z ∧ vs = [.str y] ∧ y.length ≠ 0 ∧ z.length + 2 ≤ sizeLine ∧ ∀ l, H l = none → Q (.ref l) (upd H l (.lst ((Txt.split z y).map V.str)))
theorem mt_split {X : Cx} : MtM X "str.split" rSplit := by
  intro pins s σ H x vs v us Q I rx rv h
  obtain ⟨z, y, rfl, rfl, hy, hz, q⟩ := h
  obtain ⟨t, rfl⟩ := rx
  obtain ⟨u, rfl, ru⟩ := rv.one
  obtain ⟨tu, rfl⟩ := ru
  have hle := split_le z y
  have hsz : z.length ≤ sizeLine := by omega
  have hy' : (y.length == 0) = false := by simpa using hy
  have fin : ∀ (its : List Value) (tk : Nat), Vals ((Txt.split z y).map V.str) its →
      wants (EP X pins σ Q) X.xe (.ok (.ret (.ref s.heap.objs.size))) { s with toks := tk, heap := s.heap.push { cls := .type "list", data := .seq its.toArray } } := fun its tk r =>
    ⟨.ref s.heap.objs.size, _, I.laid (t' := tk) (fun b o e => Heap.get?_push_of_some _ e) (Nat.le_refl _) (show ObjOk X.prog X.w _ _ _ (.lst _) from ⟨by rw [List.length_map]; omega, its, _, r, Heap.get?_push_size _ rfl⟩), rfl, q _ (I.hok.fresh (Nat.le_refl _))⟩
  cases h1 : (decide (z.length < y.length) || decide (Builtin.Str.strKind z < Builtin.Str.strKind y))
  · cases hf : (Builtin.Str.occurrences z y 0 z.length (z.length + 1)).isEmpty
    · have e : Txt.split z y = Builtin.Str.partsBetween z (Builtin.Str.occurrences z y 0 z.length (z.length + 1)) y.length := by
        unfold Txt.split
        rw [if_neg (by rw [h1]; decide), if_neg (by rw [hf]; decide)]
      refine call_meets F.slot_str_split (typeIs_str _ _ _) F.entry_str_split (F.args_str_split_2 _ _) (meets_str_split_sep z y t tu h1 hy' hf hsz (by rw [← e]; omega)) ?_
      rw [← e]
      exact fin _ _ (strsFrom_rel _ _)
    · have e : Txt.split z y = [z] := by
        unfold Txt.split
        rw [if_neg (by rw [h1]; decide), if_pos hf]
      exact call_meets F.slot_str_split (typeIs_str _ _ _) F.entry_str_split (F.args_str_split_2 _ _) (meets_str_split_not_found z y t tu h1 hy' hf)
        (fin [.str z t] s.toks (by rw [e]; exact .cons ⟨t, rfl⟩ .nil))
  · have e : Txt.split z y = [z] := by
      unfold Txt.split
      rw [if_pos h1]
    exact call_meets F.slot_str_split (typeIs_str _ _ _) F.entry_str_split (F.args_str_split_2 _ _) (meets_str_split_cannot_occur z y t tu h1)
      (fin [.str z t] s.toks (by rw [e]; exact .cons ⟨t, rfl⟩ .nil))
def sg (z : Str) : List Nat := z.cps.toList
def sp (c : Nat) : List Nat → List (List Nat)
  | [] => [[]]
  | a :: r => if a = c then [] :: sp c r else (a :: (sp c r).headD []) :: (sp c r).tail
theorem sp_ne (c : Nat) : ∀ l, ∃ h t, sp c l = h :: t
  | [] => ⟨_, _, rfl⟩
  | a :: r => by
    unfold sp
    split
    · exact ⟨_, _, rfl⟩
    · exact ⟨_, _, rfl⟩
theorem sp_free {c : Nat} : ∀ {l : List Nat}, c ∉ l → sp c l = [l]
  | [], _ => rfl
  | a :: r, h => by
    have h1 : ¬a = c := fun e => h (e ▸ List.mem_cons_self)
    have h2 : sp c r = [r] := sp_free fun e => h (List.mem_cons_of_mem _ e)
    unfold sp
    rw [if_neg h1, h2]
    rfl
theorem sp_cut (c : Nat) : ∀ (a b : List Nat), sp c (a ++ c :: b) = sp c a ++ sp c b
  | [], b => by
    show sp c (c :: b) = [[]] ++ sp c b
    rw [sp, if_pos rfl]
    rfl
  | x :: a, b => by
    show sp c (x :: (a ++ c :: b)) = sp c (x :: a) ++ sp c b
    rw [sp, sp, sp_cut c a b]
    split
    · rfl
    · obtain ⟨h, t, e⟩ := sp_ne c a
      rw [e]
      rfl
def jn (c : Nat) : List (List Nat) → List Nat
  | [] => []
  | [x] => x
  | x :: y :: r => x ++ c :: jn c (y :: r)
theorem sp_jn {c : Nat} : ∀ {ps : List (List Nat)}, ps ≠ [] → (∀ p ∈ ps, c ∉ p) → sp c (jn c ps) = ps
  | [], h, _ => absurd rfl h
  | [x], _, h => sp_free (h x List.mem_cons_self)
  | x :: y :: r, _, h => by
    show sp c (x ++ c :: jn c (y :: r)) = _
    rw [sp_cut, sp_free (h x List.mem_cons_self), sp_jn (by simp) fun p hp => h p (List.mem_cons_of_mem _ hp)]
    rfl
theorem sg_cat (a b : Str) : sg (a ++ b) = sg a ++ sg b := Array.toList_append
theorem sg_join (c : Nat) : ∀ ts : List Str, sg (Str.join ⟨#[c]⟩ ts) = jn c (ts.map sg)
  | [] => rfl
  | [x] => rfl
  | x :: y :: r => by
    show sg (x ++ ⟨#[c]⟩ ++ Str.join ⟨#[c]⟩ (y :: r)) = sg x ++ c :: jn c ((y :: r).map sg)
    rw [sg_cat, sg_cat, sg_join c (y :: r), List.append_assoc]
    rfl
theorem split_sp (c : Nat) (z : Str) : (Txt.split z ⟨#[c]⟩).map sg = sp c (sg z) := by
  have h1 := StrLaws.join_split z ⟨#[c]⟩
  have h2 := StrLaws.split_free z c
  have h3 := split_pos z ⟨#[c]⟩
  have h4 : sg z = jn c ((Txt.split z ⟨#[c]⟩).map sg) := by rw [← sg_join, h1]
  rw [h4, sp_jn]
  · intro e
    rw [List.map_eq_nil_iff] at e
    rw [e] at h3
    exact absurd h3 (by decide)
  · intro p hp
    obtain ⟨q, hq, rfl⟩ := List.mem_map.mp hp
    exact h2 q hq
def wd (l : List Nat) : List (List Nat) := (sp 32 l).filter (· ≠ [])
theorem wd_cut (a b : List Nat) : wd (a ++ 32 :: b) = wd a ++ wd b := by
  unfold wd
  rw [sp_cut, List.filter_append]
theorem wd_one {l : List Nat} (h : 32 ∉ l) (hn : l ≠ []) : wd l = [l] := by
  unfold wd
  rw [sp_free h]
  simp [hn]
theorem wd_nil : wd [] = [] := rfl
theorem wd_pad (k : Nat) (b : List Nat) : wd (List.replicate k 32 ++ b) = wd b := by
  induction k with
  | zero => rfl
  | succ k ih =>
    show wd ([] ++ 32 :: (List.replicate k 32 ++ b)) = _
    rw [wd_cut, ih]
    rfl
theorem wd_padE (k : Nat) (b : List Nat) : wd (b ++ List.replicate k 32) = wd b := by
  cases k with
  | zero => rw [List.replicate_zero, List.append_nil]
  | succ k =>
    show wd (b ++ 32 :: List.replicate k 32) = _
    have := wd_pad k []
    rw [List.append_nil] at this
    rw [wd_cut, this, wd_nil, List.append_nil]
end L2
namespace L2
open PySem PySem.Spec PyProof.Rows
def rStarts : V → List V → Hp → VK → Prop := fun x vs H Q => ∃ z y : Str, x = .str z ∧ vs = [.str y] ∧ Q (.bl (Txt.startswith z y)) H
theorem mt_starts {X : Cx} : MtM X "str.startswith" rStarts := by
  intro pins s σ H x vs v us Q I rx rv h
  obtain ⟨z, y, rfl, rfl, q⟩ := h
  obtain ⟨t, rfl⟩ := rx
  obtain ⟨u, rfl, ru⟩ := rv.one
  obtain ⟨tu, rfl⟩ := ru
  exact SC.startswith ⟨.bl _, H, I, rfl, q⟩
theorem starts_sg (z : Str) (c : Nat) : Txt.startswith z ⟨#[c]⟩ = ((sg z).head? == some c) := by
  obtain ⟨⟨l⟩⟩ := z
  unfold Txt.startswith Builtin.Str.subAt sg Str.length
  cases l with
  | nil => rfl
  | cons a l => simp [Bool.eq_iff_iff]
def rStripR : V → List V → Hp → VK → Prop := fun x vs H Q => ∃ z y : Str, x = .str z ∧ vs = [.str y] ∧ z.length ≤ sizeLine ∧ Q (.str (Txt.rstripChars z y)) H
theorem mt_rstrip {X : Cx} : MtM X "str.rstrip" rStripR := by
  intro pins s σ H x vs v us Q I rx rv h
  obtain ⟨z, y, rfl, rfl, hz, q⟩ := h
  obtain ⟨t, rfl⟩ := rx
  obtain ⟨u, rfl, ru⟩ := rv.one
  obtain ⟨tu, rfl⟩ := ru
  exact SC.rstripChars (fun t' k => ⟨.str _, H, I.tok _, ⟨_, rfl⟩, q⟩) hz
theorem rstrip_first {z y : Str} {b : Nat} (h : Txt.rstripChars z y = ⟨#[b]⟩) : (sg z).head? = some b := by
  obtain ⟨j, hj, e⟩ := rstripChars_is_prefix z y
  rw [e] at h
  have h2 : sg (Builtin.Str.strSub z 0 j) = [b] := by rw [h]; rfl
  unfold sg at h2 ⊢
  rw [StrLaws.strSub_toList, List.drop_zero, Nat.sub_zero] at h2
  cases e3 : z.cps.toList with
  | nil => rw [e3] at h2; simp at h2
  | cons a l =>
    rw [e3] at h2
    cases j with
    | zero => simp at h2
    | succ j =>
      rw [List.take_succ_cons] at h2
      injection h2 with h3 _
      rw [h3]
      rfl
def blS (n : Nat) : Str := ⟨(List.replicate n 32).toArray⟩
theorem sg_blS (n : Nat) : sg (blS n) = List.replicate n 32 := by unfold sg blS; rw [List.toList_toArray]
theorem op_mulB {X : Cx} : OpR X (binaryOp .Mult) (fun a b H Q => ∃ n, a = .str ⟨#[32]⟩ ∧ b = .int ((n : Nat) : Int) ∧ n ≤ 3 ∧ Q (.str (blS n)) H) := by
  intro pins s σ H a b v u Q I ra rb h
  obtain ⟨n, rfl, rfl, hn, q⟩ := h
  obtain ⟨t, rfl⟩ := ra
  obtain ⟨t2, rfl⟩ := rb
  match n, hn, q with
  | 0, _, q => exact PySem.P.mul_str_none (by decide) (by decide) ⟨.str (blS 0), H, I.tok _, ⟨_, rfl⟩, q⟩
  | 1, _, q =>
    refine PySem.P.mul_str (by decide) (fun _ h => by simp at h) (fun _ h => by simp at h) ?_
    rw [if_neg (by decide), if_pos (by rfl)]
    exact ⟨.str (blS 1), H, I, ⟨_, rfl⟩, q⟩
  | 2, _, q =>
    refine PySem.P.mul_str (by decide) (fun _ _ => by decide) (fun _ _ => by decide) ?_
    rw [if_neg (by decide), if_neg (by decide)]
    exact ⟨by decide, ⟨.str (blS 2), H, I.tok _, ⟨s.toks, rfl⟩, q⟩⟩
  | 3, _, q =>
    refine PySem.P.mul_str (by decide) (fun _ _ => by decide) (fun _ _ => by decide) ?_
    rw [if_neg (by decide), if_neg (by decide)]
    exact ⟨by decide, ⟨.str (blS 3), H, I.tok _, ⟨s.toks, rfl⟩, q⟩⟩
theorem wd_joinB (k : Nat) : ∀ ts : List Str, wd (sg (Str.join (blS (k + 1)) ts)) = (ts.map fun t => wd (sg t)).flatten
  | [] => rfl
  | [x] => by simp [Str.join]
  | x :: y :: r => by
    show wd (sg (x ++ blS (k + 1) ++ Str.join (blS (k + 1)) (y :: r))) = wd (sg x) ++ ((y :: r).map fun t => wd (sg t)).flatten
    rw [sg_cat, sg_cat, sg_blS, ← wd_joinB k (y :: r), List.append_assoc]
    show wd (sg x ++ 32 :: (List.replicate k 32 ++ _)) = _
    rw [wd_cut, wd_pad]
theorem wd_parts {ps : List (List Nat)} (h : ∀ p ∈ ps, 32 ∉ p) : (ps.map wd).flatten = ps.filter (· ≠ []) := by
  induction ps with
  | nil => rfl
  | cons p ps ih =>
    rw [List.map_cons, List.flatten_cons, ih fun q hq => h q (List.mem_cons_of_mem _ hq)]
    by_cases hp : p = []
    · subst hp
      simp [wd_nil]
    · rw [wd_one (h p List.mem_cons_self) hp]
      simp [hp]
theorem wd_wide (k : Nat) (z : Str) : wd (sg (Txt.join (blS (k + 1)) (Txt.split z ⟨#[32]⟩))) = wd (sg z) := by
  have e : Txt.join (blS (k + 1)) (Txt.split z ⟨#[32]⟩) = Str.join (blS (k + 1)) (Txt.split z ⟨#[32]⟩) := StrLaws.glued_eq_join _ _
  rw [e, wd_joinB]
  have h2 := StrLaws.split_free z 32
  have e2 : ((Txt.split z ⟨#[32]⟩).map fun t => wd (sg t)) = ((Txt.split z ⟨#[32]⟩).map sg).map wd := by rw [List.map_map]; rfl
  rw [e2, wd_parts fun p hp => by
    obtain ⟨q, hq, rfl⟩ := List.mem_map.mp hp
    exact h2 q hq]
  rw [split_sp]
  rfl
end L2
namespace L2
open PySem PySem.Spec PyProof.Rows
end L2
namespace L2
open PySem
theorem caps_of {X : Cx} {scope : Scope} {js : List (Nat × Str)} (h : (js.all fun p => X.N[p.1]? == some p.2 && X.env.scope.names.lookup p.2 == some .cell && scope.names.lookup p.2 == some .free) = true)
    (h2 : (scope.names.all fun y => y.2 != .free || X.env.scope.names.lookup y.1 == some .cell) = true) : Caps X scope js := by
  refine ⟨fun p hp => ?_, fun y hy => ?_⟩
  · have := List.all_eq_true.mp h p hp
    simp only [Bool.and_eq_true, beq_iff_eq] at this
    exact ⟨this.1.1, this.1.2, this.2⟩
  · have := List.all_eq_true.mp h2 _ hy
    simpa using this
theorem cut_ints (ns : List Int) (lo hi : Option Int) : ∃ ns' : List Int, cutV (ns.map V.int) lo hi = ns'.map V.int ∧ (∀ n ∈ ns', n ∈ ns) ∧ ns'.length ≤ ns.length :=
  ⟨(ns.drop (HT.sIx (ns.map V.int).length 0 lo)).take (HT.sIx (ns.map V.int).length (ns.map V.int).length hi - HT.sIx (ns.map V.int).length 0 lo), by unfold cutV; rw [← List.map_drop, ← List.map_take], fun n hn => List.mem_of_mem_drop (List.mem_of_mem_take hn), by rw [List.length_take, List.length_drop]; omega⟩
end L2
namespace L2
open PySem
theorem ix_tupK {X : Cx} (K : PySem.W.Frag) (hK : X.K = K := by rfl) : IxR X (rIxT K) := by
  subst hK
  exact ix_tup
theorem pg_tupK {X : Cx} {es : List Expr} {k : Nat} {t : TGs} {n : Nat} {pos : Pos} (K : PySem.W.Frag) (hc : X.calm = true) (h : PGs X es t) (hK : X.K = K := by rfl)
    (hn : (assignEach es X.env).length = n := by rfl) (hst : (assignEach es X.env).findIdx? (·.1) = none := by rfl) : PG X (.Tuple es k pos) (gTup K n t) := by
  subst hK
  exact pg_tup hc h hn hst
end L2
namespace K11
open PySem L2 ST
def top (i : Nat) : Stmt := PySem.Challenge.pw_wright_k46_clashes.main.body.getD i (.Pass ⟨0, 0, 0, 0⟩)
abbrev sClash : Stmt := top 1
abbrev sCell : Stmt := top 3
abbrev sFree : Stmt := top 4
abbrev sDue : Stmt := top 5
abbrev sLaw : Stmt := top 6
structure Txt (mg : Str → Option Value) : Prop where
  len : mg "len" = none
  rng : mg "range" = none
  isi : mg "isinstance" = none
  tup : mg "tuple" = none
  lst : mg "list" = none
  set : mg "set" = none
  srt : mg "sorted" = none
abbrev PK := Int × Str
def pkK (p : PK) : List Key := [.inl p.1, .inr p.2]
theorem pkK_inj {p q : PK} (h : pkK p = pkK q) : p = q := by
  obtain ⟨a, b⟩ := p
  obtain ⟨c, d⟩ := q
  simp only [pkK, List.cons.injEq, Sum.inl.injEq, Sum.inr.injEq, and_true] at h
  rw [h.1, h.2]
def keyOf (z : D3) : PK := (z.1, z.2.1)
def ofKey (zs : List D3) (p : PK) : List DK := (zs.filter fun z => decide (keyOf z = p)).map (·.2.2)
def kAt (zs : List D3) (i : Nat) : PK := keyOf (zs.getD i d30)
def keysN (zs : List D3) (n : Nat) : List PK := metK (kAt zs) n
abbrev Cl := PK × List DK
def clsh (zs : List D3) : List Cl := ((keysN zs zs.length).map fun p => (p, ofKey zs p)).filter fun c => decide (1 < c.2.length)
theorem ofKey_snoc (zs : List D3) (z : D3) (p : PK) : ofKey (zs ++ [z]) p = if keyOf z = p then ofKey zs p ++ [z.2.2] else ofKey zs p := by
  unfold ofKey
  rw [List.filter_append, List.map_append]
  by_cases h : keyOf z = p
  · rw [if_pos h]; simp [h]
  · rw [if_neg h]; simp [h]
theorem ofKey_nil {zs : List D3} {p : PK} (h : ∀ z ∈ zs, keyOf z ≠ p) : ofKey zs p = [] := by
  unfold ofKey
  rw [List.filter_eq_nil_iff.mpr fun z hz => by simpa using h z hz]
  rfl
theorem take_snoc {α : Type} {zs : List α} {i : Nat} {z : α} (e : zs[i]? = some z) : zs.take (i + 1) = zs.take i ++ [z] := by
  rw [List.take_add_one, e]; rfl
theorem kAt_eq {zs : List D3} {i : Nat} {z : D3} (e : zs[i]? = some z) : kAt zs i = keyOf z := by
  unfold kAt; rw [List.getD, e]; rfl
theorem keysN_step {zs : List D3} {i : Nat} {z : D3} (e : zs[i]? = some z) : keysN zs (i + 1) = if keyOf z ∈ keysN zs i then keysN zs i else keysN zs i ++ [keyOf z] := by
  unfold keysN
  rw [metK, kAt_eq e]
  by_cases h : keyOf z ∈ metK (kAt zs) i
  · rw [if_pos h, if_pos h]
  · rw [if_neg h, if_neg h]
theorem keysN_new {zs : List D3} {i : Nat} {p : PK} (h : p ∉ keysN zs i) (hi : i ≤ zs.length) : ofKey (zs.take i) p = [] := by
  refine ofKey_nil fun z hz e => h ((metK_mem _ _ _).mpr ?_)
  obtain ⟨j, hj, e2⟩ := List.mem_iff_getElem.mp hz
  rw [List.length_take] at hj
  rw [List.getElem_take] at e2
  refine ⟨j, by omega, ?_⟩
  rw [kAt_eq (z := z) (by rw [← e2]; exact List.getElem?_eq_getElem (by omega))]
  exact e
def wds : List Str := ["", "a", "b", "c"]
def pks : List PK := [(0, ""), (0, "a"), (0, "b"), (0, "c"), (1, ""), (1, "a"), (1, "b"), (1, "c"), (2, ""), (2, "a"), (2, "b"), (2, "c")]
def dueL (zs : List D3) : List Cl := (pks.map fun p => (p, ofKey zs p)).filter fun c => decide (1 < c.2.length)
abbrev kLt : PK → PK → Bool := lex iLt ltL
theorem kLt_sto : STO kLt := iLt_sto.lex ltL_sto
theorem pks_srt : Srt kLt pks := by
  unfold Srt
  have : pks.Pairwise (fun x y => kLt y x = false) := by decide +kernel
  exact this
theorem pks_nd : pks.Nodup := by decide +kernel
theorem lt3_key {a b : D3} (h : lt3 b a = false) : kLt (keyOf b) (keyOf a) = false := by
  unfold lt3 kLt ST.lex at *
  show (if b.1 = a.1 then ltL b.2.1 a.2.1 else iLt b.1 a.1) = false
  by_cases e : b.1 = a.1
  · rw [if_pos e] at h ⊢
    by_cases e2 : b.2.1 = a.2.1
    · rw [e2]; exact ltL_irr _
    · rw [if_neg e2] at h; exact h
  · rw [if_neg e] at h ⊢
    exact h
theorem srt_at {zs : List D3} (h : Srt lt3 zs) {i j : Nat} (hij : i < j) (hj : j < zs.length) : lt3 zs[j] zs[i] = false := List.pairwise_iff_getElem.mp h i j (by omega) hj hij
theorem keysN_srt {zs : List D3} (h : Srt lt3 zs) : ∀ n, n ≤ zs.length → Srt kLt (keysN zs n)
  | 0, _ => .nil
  | n + 1, hn => by
    have ih := keysN_srt h n (by omega)
    have e : zs[n]? = some zs[n] := List.getElem?_eq_getElem (by omega)
    rw [keysN_step e]
    split
    · exact ih
    · refine List.pairwise_append.mpr ⟨ih, List.pairwise_singleton _ _, fun a ha b hb => ?_⟩
      rw [List.mem_singleton.mp hb]
      obtain ⟨i, hi, rfl⟩ := (metK_mem _ _ _).mp ha
      rw [kAt_eq (List.getElem?_eq_getElem (show i < zs.length by omega))]
      exact lt3_key (srt_at h hi (by omega))
theorem clsh_due {zs : List D3} (h : Srt lt3 zs) (ok : ∀ z ∈ zs, keyOf z ∈ pks) : clsh zs = dueL zs := by
  unfold clsh dueL
  rw [List.filter_map, List.filter_map]
  have key : (keysN zs zs.length).filter ((fun c : Cl => decide (1 < c.2.length)) ∘ fun p => (p, ofKey zs p)) = pks.filter ((fun c : Cl => decide (1 < c.2.length)) ∘ fun p => (p, ofKey zs p)) := by
    refine srt_unique kLt_sto ((keysN_srt h _ (Nat.le_refl _)).sublist List.filter_sublist) (pks_srt.sublist List.filter_sublist) ?_
    refine (List.perm_ext_iff_of_nodup ((metK_nd _ _).sublist List.filter_sublist) (pks_nd.sublist List.filter_sublist)).mpr fun p => ?_
    rw [List.mem_filter, List.mem_filter]
    refine and_congr_left fun hp => ?_
    have hp : 1 < (ofKey zs p).length := by simpa using hp
    have ex : ∃ z ∈ zs, keyOf z = p := by
      apply Classical.byContradiction
      intro no
      rw [ofKey_nil fun z hz e => no ⟨z, hz, e⟩] at hp
      simp at hp
    obtain ⟨z, hz, rfl⟩ := ex
    refine ⟨fun _ => ok z hz, fun _ => (metK_mem _ _ _).mpr ?_⟩
    obtain ⟨j, hj, e⟩ := List.mem_iff_getElem.mp hz
    exact ⟨j, hj, by rw [kAt_eq (List.getElem?_eq_getElem hj), e]⟩
  rw [key]
theorem ofKey_srt {zs : List D3} (h : Srt lt3 zs) (p : PK) : Srt dLt (ofKey zs p) := by
  unfold Srt ofKey
  rw [List.pairwise_map]
  refine List.Pairwise.imp_of_mem ?_ (h.sublist List.filter_sublist)
  intro a b ha hb hl
  have ea : keyOf a = p := by simpa using (List.mem_filter.mp ha).2
  have eb : keyOf b = p := by simpa using (List.mem_filter.mp hb).2
  have e : keyOf b = keyOf a := eb.trans ea.symm
  simp only [keyOf, Prod.mk.injEq] at e
  unfold lt3 ST.lex at hl
  rw [if_pos e.1] at hl
  rw [if_pos e.2] at hl
  exact hl
theorem ofKey_len (zs : List D3) (p : PK) : (ofKey zs p).length ≤ zs.length := by
  unfold ofKey
  rw [List.length_map]
  exact List.length_filter_le _ _
theorem clsh_one (zs : List D3) (h : zs.length ≤ 1) : clsh zs = [] := by
  unfold clsh
  rw [List.filter_eq_nil_iff]
  intro c hc
  obtain ⟨p, _, rfl⟩ := List.mem_map.mp hc
  have := ofKey_len zs p
  simp
  omega
theorem own_sorted {zs zs' : List D3} (h : Srt lt3 zs) (nd : zs.Nodup) (p : zs'.Perm (dedK d30 zs)) (h' : Srt lt3 zs') : zs' = zs :=
  srt_unique lt3_sto h' h (p.trans ((List.perm_ext_iff_of_nodup (dedK_nd _ _) nd).mpr fun z => dedK_mem _ _ z))
end K11
namespace K11
open PySem L2 ST
def kvz : List PK → List Addr → List (List Key × V)
  | p :: ps, b :: bs => (pkK p, .ref b) :: kvz ps bs
  | _, _ => []
theorem kvz_none : ∀ {ps : List PK} {bs : List Addr} {p : PK}, p ∉ ps → valV (kvz ps bs) (pkK p) = none
  | [], _, _, _ => rfl
  | _ :: _, [], _, _ => rfl
  | q :: ps, b :: bs, p, h => by
    show valV ((pkK q, V.ref b) :: kvz ps bs) (pkK p) = none
    rw [valV_neg (fun z => h (by rw [pkK_inj z]; exact List.mem_cons_self))]
    exact kvz_none fun z => h (List.mem_cons_of_mem _ z)
theorem kvz_get : ∀ {ps : List PK} {bs : List Addr} {p : PK}, bs.length = ps.length → p ∈ ps → ∃ (j : Nat) (b : Addr), ps[j]? = some p ∧ bs[j]? = some b ∧ valV (kvz ps bs) (pkK p) = some (.ref b)
  | [], _, _, _, h => by cases h
  | _ :: _, [], _, e, _ => by cases e
  | q :: ps, b :: bs, p, e, h => by
    by_cases c : q = p
    · subst c; exact ⟨0, b, rfl, rfl, valV_pos rfl⟩
    · obtain ⟨j, b', h1, h2, h3⟩ := kvz_get (ps := ps) (bs := bs) (p := p) (by simpa using e) (by rcases List.mem_cons.mp h with z | z; exact absurd z.symm c; exact z)
      exact ⟨j + 1, b', h1, h2, (valV_neg (fun z => c (pkK_inj z))).trans h3⟩
theorem kvz_app : ∀ {ps : List PK} {bs : List Addr} (p : PK) (b : Addr), bs.length = ps.length → kvz (ps ++ [p]) (bs ++ [b]) = kvz ps bs ++ [(pkK p, .ref b)]
  | [], [], _, _, _ => rfl
  | [], _ :: _, _, _, e => by cases e
  | _ :: _, [], _, _, e => by cases e
  | q :: ps, c :: bs, p, b, e => by
    show (pkK q, V.ref c) :: kvz (ps ++ [p]) (bs ++ [b]) = _
    rw [kvz_app p b (by simpa using e)]
    rfl
theorem kvz_put {ps : List PK} {bs : List Addr} {p : PK} (b : Addr) (e : bs.length = ps.length) (h : p ∉ ps) : putK (kvz ps bs) (pkK p) (.ref b) = kvz (ps ++ [p]) (bs ++ [b]) := by
  unfold putK
  rw [valV_any, kvz_none h, kvz_app p b e]
  rfl
theorem kvz_len : ∀ {ps : List PK} {bs : List Addr}, bs.length = ps.length → (kvz ps bs).length = ps.length
  | [], [], _ => rfl
  | [], _ :: _, e => by cases e
  | _ :: _, [], e => by cases e
  | q :: ps, c :: bs, e => by
    show (kvz ps bs).length + 1 = _
    rw [kvz_len (by simpa using e)]
    rfl
theorem kvz_at : ∀ {ps : List PK} {bs : List Addr} {i : Nat} {kv : List Key × V}, (kvz ps bs)[i]? = some kv → ∃ p b, ps[i]? = some p ∧ bs[i]? = some b ∧ kv = (pkK p, .ref b)
  | [], _, i, kv, h => by cases h
  | _ :: _, [], i, kv, h => by cases h
  | q :: ps, c :: bs, 0, kv, h => by cases h; exact ⟨q, c, rfl, rfl, rfl⟩
  | q :: ps, c :: bs, i + 1, kv, h => kvz_at (ps := ps) (bs := bs) h
abbrev GrL (K : PySem.W.Frag) (H0 H : Hp) (ds' : PK → List DK) (b : Addr) (p : PK) : Prop := ∃ ds : List Addr, H b = some (.lst (ds.map V.ref)) ∧ Paired (dR K H0) ds (ds' p)
structure GI (K : PySem.W.Frag) (H0 H : Hp) (zs : List D3) (i : Nat) (bs : List Addr) : Prop where
  nd : bs.Nodup
  fr : ∀ b ∈ bs, H0 b = none
  gr : Paired (GrL K H0 H (ofKey (zs.take i))) bs (keysN zs i)
def CR (K : PySem.W.Frag) (D : Addr) (H0 H : Hp) (t : Addr) (c : Cl) : Prop := ∃ (b : Addr) (ds : List Addr), b ≠ D ∧ H t = some (.tup [.int c.1.1, .str c.1.2, .ref b]) ∧ H b = some (.lst (ds.map V.ref)) ∧ Paired (dR K H0) ds c.2 ∧ H0 b = none
theorem sqt_back {K : PySem.W.Frag} {H : Hp} {d t : Addr} {xs : List V} (h : SqT K (upd H d (.dT [])) t xs) : SqT K H t xs := by
  rcases h with (h | ⟨o, h⟩) | h
  · by_cases e : t = d
    · rw [e, upd_same] at h; cases h
    · rw [upd_ne e] at h; exact .inl (.inl h)
  · by_cases e : t = d
    · rw [e, upd_same] at h; cases h
    · rw [upd_ne e] at h; exact .inl (.inr ⟨o, h⟩)
  · exact .inr h
theorem upd_keep {H0 H : Hp} {b : Addr} {o : HO} (s : Same H0 H) (n : H0 b = none) : Same H0 (upd H b o) := fun c u h => by
  rw [upd_ne (fun z => by rw [z, n] at h; cases h)]
  exact s c u h
theorem paired_at2 {α β : Type} {R : α → β → Prop} {l : List α} {m : List β} (p : Paired R l m) {i : Nat} {a : α} (e : l[i]? = some a) : ∃ b, m[i]? = some b ∧ R a b := by
  have li := (List.getElem?_eq_some_iff.mp e).1
  have ll := Paired.length p
  obtain ⟨a', e1, r⟩ := Paired.at_ p i _ (List.getElem?_eq_getElem (show i < m.length by omega))
  rw [e] at e1
  cases e1
  exact ⟨_, List.getElem?_eq_getElem (by omega), r⟩
theorem paired_upd {α β : Type} {R R' : α → β → Prop} {l : List α} {m : List β} (p : Paired R l m) (f : ∀ (i : Nat) a b, l[i]? = some a → m[i]? = some b → R a b → R' a b) : Paired R' l m := by
  have ll := Paired.length p
  refine paired_zip ll fun q hq => ?_
  obtain ⟨i, e⟩ := List.mem_iff_getElem?.mp hq
  obtain ⟨e1, e2⟩ := List.getElem?_zip_eq_some.mp e
  obtain ⟨b, e3, r⟩ := paired_at2 p e1
  rw [e2] at e3
  cases e3
  exact f i _ _ e1 e2 r
theorem nodup_at {α : Type} {l : List α} (h : l.Nodup) {i j : Nat} {a : α} (e1 : l[i]? = some a) (e2 : l[j]? = some a) : i = j := (List.getElem?_inj (List.getElem?_eq_some_iff.mp e1).1 h).mp (e1.trans e2.symm)
section
variable {P : Program} {w : World} {K : PySem.W.Frag} {mg : Str → Option Value} {base : Heap} {f : Addr} {fd : FuncData}
def spClash (K : PySem.W.Frag) : Sp := fun vs H Q _ => ∃ (a : Addr) (ts : List Addr) (zs : List D3), vs = [.ref a] ∧ SqL K H a (ts.map V.ref) ∧ Paired (d3R K H) ts zs ∧ zs.length < 64 ∧ ∀ (zs' : List D3) (l : Addr) (us : List Addr) (H' : Hp), zs'.Perm (dedK d30 zs) → Srt lt3 zs' → Same H H' → H l = none → H' l = some (.lst (us.map V.ref)) → Paired (CR K l H H') us (clsh zs') → Q (.ref l) H'
theorem scClash : FnScope ["deeds", "told", "room", "word", "deed"] ["deeds"] (defScope sClash) := ⟨rfl, rfl, rfl, by decide +kernel, rfl, by decide +kernel, by decide +kernel⟩
theorem ok_clash (F : Fun K "clashes_of" "clashes_of" sClash f fd) (T : Txt mg) : FnOk P w K mg base CX0 1 f fd ["deeds"] (spClash K) := by
  refine F.ok scClash (fun vs H Q E h => ?_) (fun cdv A outer s H vs Q E hr h => ?_)
  · obtain ⟨a, ts, zs, rfl, _⟩ := h; rfl
  · obtain ⟨a, ts, zs, rfl, hS, hrl, hn, q⟩ := h
    have hu := hu_of hr
    have hu20 : (A.deeper (PyProof.Rows.envOfC ("clashes_of" : Str) (defScope sClash) s.heap.objs.size f cdv)).units + 20 < cLine := Nat.lt_of_le_of_lt (by omega) hr.un
    refine ⟨_, pss_cons (ps_set (i := 1) scClash.nd rfl (Or.inl rfl) pe_dnewT)
      (pss_cons (ps_for PassesOwn.never rfl (pi_list (pe_sortedSet3 rfl hu20 rfl T.srt rfl T.set (pv 0))) (pg_tup rfl (pgs_cons (pg_name (i := 2) scClash.nd rfl (Or.inl rfl)) (pgs_cons (pg_name (i := 3) scClash.nd rfl (Or.inl rfl)) (pgs_cons (pg_name (i := 4) scClash.nd rfl (Or.inl rfl)) pgs_nil))))
        (pss_one (ps_expr (pe_bm PySem.F.plainAttrs_list PySem.F.slot_list_append PySem.F.type_list_append mt_append (pe_dsetdT hu (pv 1) (pe_tup (pa_cons (pv 2) (pa_cons (pv 3) pa_nil))) (pe_lst pa_nil) ⟨rfl, rfl, rfl, rfl⟩) (pa_cons (pv 4) pa_nil)))))
      (pss_one (ps_ret (pe_compG ["pair", "found"] [] rfl (pi_items (pv 1) ⟨rfl, rfl⟩) (caps_of rfl rfl) (by decide +kernel) rfl (by decide +kernel)
        (fun _ _ _ _ _ => pg_tupK (n := 2) K rfl (pgs_cons (pg_name (i := 0) (show (["pair", "found"] : List Str).Nodup by decide +kernel) rfl (Or.inl rfl)) (pgs_cons (pg_name (i := 1) (show (["pair", "found"] : List Str).Nodup by decide +kernel) rfl (Or.inl rfl)) pgs_nil)))
        (fun _ _ _ _ _ => pif_one (pt_cmpR op_gt (pe_callB (call_lenK K) rfl T.len PySem.boot_len (pa_cons (pv 1) pa_nil)) pe_int (nomark _)))
        (fun _ _ _ _ _ => pe_tup (pa_cons (pe_ix (ix_tupK K) (pv 0) pe_int (fun _ _ => rfl)) (pa_cons (pe_ix (ix_tupK K) (pv 0) pe_int (fun _ _ => rfl)) (pa_cons (pv 1) pa_nil)))))))), ?_⟩
    intro d hd
    have k1 := same_laid hd (.dT [])
    have e1 : upd H d (.dT []) d = some (.dT []) := upd_same
    have back : ∀ {t : Addr} {z : D3}, d3R K (upd H d (.dT [])) t z → d3R K H t z := fun ⟨b, h1, h2⟩ => ⟨b, sqt_back h1, sqt_back h2⟩
    generalize upd H d (.dT []) = H1 at k1 e1 back
    refine ⟨_, rfl, .mk a ts zs (k1.seq hS) (paired_imp (fun t z ⟨b, h1, h2⟩ => ⟨b, k1.tup h1, k1.tup h2⟩) hrl) hn fun l ts' zs' hl hrl1 pm srt => ?_⟩
    have hrl' : Paired (d3R K H) ts' zs' := paired_imp (fun t z h => back h) hrl1
    have ll := Paired.length hrl'
    have hn' : zs'.length < 64 := by rw [pm.length_eq]; exact Nat.lt_of_le_of_lt (dedK_len _ _) hn
    have k2 := same_laid hl (.lst (ts'.map V.ref))
    have e2 : upd H1 l (.lst (ts'.map V.ref)) l = some (.lst (ts'.map V.ref)) := upd_same
    generalize upd H1 l (.lst (ts'.map V.ref)) = H2 at k2 e2
    have fl : H l = none := k1.free hl
    refine ⟨l, rfl, ⟨_, SqL.of e2⟩, ?_⟩
    refine for_list (xs := ts'.map V.ref) (fun i σ H3 => ∃ (bs : List Addr) (y2 y3 y4 : Option V), σ = [some (.ref a), some (.ref d), y2, y3, y4] ∧ Same H H3 ∧ H3 l = some (.lst (ts'.map V.ref)) ∧ H3 d = some (.dT (kvz (keysN zs' i) bs)) ∧ GI K H H3 zs' i bs ∧ l ∉ bs)
      ⟨[], none, none, none, rfl, k1.trans k2, e2, k2 _ _ e1, ⟨.nil, fun b hb => (by cases hb), .nil⟩, fun z => (by cases z)⟩ ?_ ?_ ?_
    · rintro i σ H3 _ ⟨bs, y2, y3, y4, rfl, s3, el, _⟩
      exact SqL.of el
    · rintro i x σ H3 ex ⟨bs, y2, y3, y4, rfl, s3, el, ed, G, nl⟩
      rw [List.getElem?_map] at ex
      obtain ⟨t, et, rfl⟩ := Option.map_eq_some_iff.mp ex
      obtain ⟨z, ez, b0, v1, v2⟩ := paired_at2 hrl' et
      have li := (List.getElem?_eq_some_iff.mp ez).1
      have lk := Paired.length G.gr
      have lki : (keysN zs' i).length ≤ i := metK_len _ _
      refine ⟨t, _, rfl, s3.tup v1, rfl, _, _, rfl, _, _, rfl, _, _, rfl, rfl, ?_⟩
      refine ⟨_, rfl, d, rfl, .inr ⟨_, .inl ed⟩, _, rfl, _, rfl, (by show 2 ≤ sizeLine; decide), fun u1 hu1 => ?_⟩
      have k4 := same_laid hu1 (.tup [V.int z.1, V.str z.2.1])
      have eu1 : upd H3 u1 (.tup [V.int z.1, V.str z.2.1]) u1 = some (.tup ((pkK (keyOf z)).map kV)) := upd_same
      generalize upd H3 u1 (.tup [V.int z.1, V.str z.2.1]) = H4 at k4 eu1
      refine ⟨(by show 0 ≤ sizeLine; decide), fun n0 hn0 => ?_⟩
      have k5 := same_laid hn0 (.lst [])
      have e5 : upd H4 n0 (.lst []) n0 = some (.lst []) := upd_same
      have gone : H3 n0 = none := k4.free hn0
      generalize upd H4 n0 (.lst []) = H5 at k5 e5
      have k35 := k4.trans k5
      have s5 := s3.trans k35
      have fn0 : H n0 = none := s3.free gone
      have nl0 : n0 ≠ l := fun z => by rw [z, el] at gone; cases gone
      have nd0 : n0 ≠ d := fun z => by rw [z, ed] at gone; cases gone
      have ed5 := k35 _ _ ed
      have el5 := k35 _ _ el
      have nld : l ≠ d := fun z => by rw [z, ed5] at el5; cases el5
      have szk : (kvz (keysN zs' i) bs).length < sizeLine := by rw [kvz_len lk]; exact fits' (by omega)
      have app : ∀ (H6 : Hp) (b : Addr) (bs' ds : List Addr), Same H H6 → H6 l = some (.lst (ts'.map V.ref)) → H6 d = some (.dT (kvz (keysN zs' (i + 1)) bs')) → H6 b = some (.lst (ds.map V.ref)) → H b = none → b ≠ l → b ≠ d → ds.length < 64 → l ∉ bs' → GI K H (upd H6 b (.lst (ds.map V.ref ++ [V.ref b0]))) zs' (i + 1) bs' →
          ∃ (bs'' : List Addr) (y2 y3 y4 : Option V), [some (.ref a), some (.ref d), some (.int z.1), some (.str z.2.1), some (.ref b0)] = [some (.ref a), some (.ref d), y2, y3, y4] ∧ Same H (upd H6 b (.lst (ds.map V.ref ++ [V.ref b0]))) ∧ upd H6 b (.lst (ds.map V.ref ++ [V.ref b0])) l = some (.lst (ts'.map V.ref)) ∧ upd H6 b (.lst (ds.map V.ref ++ [V.ref b0])) d = some (.dT (kvz (keysN zs' (i + 1)) bs'')) ∧ GI K H (upd H6 b (.lst (ds.map V.ref ++ [V.ref b0]))) zs' (i + 1) bs'' ∧ l ∉ bs'' :=
        fun H6 b bs' ds h1 h2 h3 h4 h5 h6 h7 h8 h9 h10 => ⟨bs', _, _, _, rfl, upd_keep h1 h5, by rw [upd_ne (Ne.symm h6)]; exact h2, by rw [upd_ne (Ne.symm h7)]; exact h3, h10, h9⟩
      have tk : zs'.take (i + 1) = zs'.take i ++ [z] := take_snoc ez
      have stp := keysN_step ez
      refine .mk _ (pkK (keyOf z)) u1 ed5 (k5 _ _ eu1) szk (fun v hv => ?_) (fun hv => ?_)
      · -- the group is there
        have mem : keyOf z ∈ keysN zs' i := Classical.byContradiction fun no => by rw [kvz_none no] at hv; cases hv
        rw [if_pos mem] at stp
        obtain ⟨j, b, g1, g2, g3⟩ := kvz_get (bs := bs) lk mem
        rw [g3] at hv
        cases hv
        obtain ⟨p, g4, ds, g5, g6⟩ := paired_at2 G.gr g2
        rw [g1] at g4
        cases g4
        have mb : b ∈ bs := List.mem_of_getElem? g2
        have g5' := k35 _ _ g5
        have ld : ds.length < 64 := by
          have := Paired.length g6
          have := ofKey_len (zs'.take i) (keyOf z)
          rw [List.length_take] at this
          omega
        refine ⟨.inl ⟨rfl, _, SqL.of g5'⟩, _, rfl, b, _, _, rfl, rfl, g5', fits' (by rw [List.length_map]; omega), ?_⟩
        refine app H5 b bs ds s5 el5 (by rw [stp]; exact ed5) g5' (G.fr b mb) (fun e => nl (e ▸ mb)) (fun e => by rw [e, ed5] at g5'; cases g5') ld nl ⟨G.nd, G.fr, ?_⟩
        rw [stp, tk]
        refine paired_upd G.gr fun j' b' p' h1 h2 ⟨ds', h3, h4⟩ => ?_
        show ∃ ds : List Addr, _ ∧ Paired (dR K H) ds (ofKey (zs'.take i ++ [z]) p')
        rw [ofKey_snoc]
        by_cases c : b' = b
        · subst c
          have : j' = j := nodup_at G.nd h1 g2
          subst this
          rw [g1] at h2
          cases h2
          rw [if_pos rfl]
          exact ⟨ds ++ [b0], by rw [upd_same, List.map_append]; rfl, paired_snoc v2 g6⟩
        · have np : ¬ keyOf z = p' := fun e => by
            subst e
            have : j' = j := nodup_at (metK_nd _ _) h2 g1
            subst this
            rw [g2] at h1
            cases h1
            exact c rfl
          rw [if_neg np]
          exact ⟨ds', by rw [upd_ne c]; exact k35 _ _ h3, h4⟩
      · -- a new group
        have nmem : keyOf z ∉ keysN zs' i := fun mem => by
          obtain ⟨j, b, _, _, g3⟩ := kvz_get (bs := bs) lk mem
          rw [g3] at hv
          cases hv
        rw [if_neg nmem] at stp
        have nb : n0 ∉ bs := fun hb => by
          obtain ⟨j, ej⟩ := List.mem_iff_getElem?.mp hb
          obtain ⟨p, _, ds, g5, _⟩ := paired_at2 G.gr ej
          rw [gone] at g5
          cases g5
        rw [kvz_put n0 lk nmem, ← stp]
        have e6 : upd H5 d (.dT (kvz (keysN zs' (i + 1)) (bs ++ [n0]))) n0 = some (.lst (([] : List Addr).map V.ref)) := by rw [upd_ne nd0]; exact e5
        have fd0 : H d = none := hd
        have el6 : upd H5 d (.dT (kvz (keysN zs' (i + 1)) (bs ++ [n0]))) l = some (.lst (ts'.map V.ref)) := by rw [upd_ne nld]; exact el5
        have s6 : Same H (upd H5 d (.dT (kvz (keysN zs' (i + 1)) (bs ++ [n0])))) := upd_keep s5 fd0
        have ed6 : upd H5 d (.dT (kvz (keysN zs' (i + 1)) (bs ++ [n0]))) d = some (.dT (kvz (keysN zs' (i + 1)) (bs ++ [n0]))) := upd_same
        have oth : ∀ b ds, b ≠ d → H3 b = some (.lst ds) → upd H5 d (.dT (kvz (keysN zs' (i + 1)) (bs ++ [n0]))) b = some (.lst ds) := fun b ds nb h => by rw [upd_ne nb]; exact k35 _ _ h
        generalize upd H5 d (.dT (kvz (keysN zs' (i + 1)) (bs ++ [n0]))) = H6 at e6 el6 s6 ed6 oth
        refine ⟨.inl ⟨rfl, _, SqL.of e6⟩, _, rfl, n0, _, _, rfl, rfl, e6, (by show 0 < sizeLine; decide), ?_⟩
        refine app H6 n0 (bs ++ [n0]) [] s6 el6 ed6 e6 fn0 nl0 nd0 (by show 0 < 64; decide) (fun hh => ?_) ⟨?_, fun b hb => ?_, ?_⟩
        · rcases List.mem_append.mp hh with h | h
          · exact nl h
          · exact nl0 (List.mem_singleton.mp h).symm
        · rw [List.nodup_append]
          refine ⟨G.nd, by simp, fun x hx y hy => ?_⟩
          rw [List.mem_singleton.mp hy]
          rintro rfl
          exact nb hx
        · rcases List.mem_append.mp hb with h | h
          · exact G.fr b h
          · rw [List.mem_singleton.mp h]; exact fn0
        · rw [stp, tk]
          refine paired_snoc (show ∃ ds : List Addr, _ ∧ Paired (dR K H) ds (ofKey (zs'.take i ++ [z]) (keyOf z)) from ⟨[b0], by rw [upd_same]; rfl, by rw [ofKey_snoc, if_pos rfl, keysN_new nmem (by omega)]; exact .cons v2 .nil⟩) (paired_upd G.gr fun j' b' p' h1 h2 ⟨ds', h3, h4⟩ => ?_)
          have mb' : b' ∈ bs := List.mem_of_getElem? h1
          have np : ¬ keyOf z = p' := fun e => nmem (e ▸ List.mem_of_getElem? h2)
          show ∃ ds : List Addr, _ ∧ Paired (dR K H) ds (ofKey (zs'.take i ++ [z]) p')
          rw [ofKey_snoc, if_neg np]
          exact ⟨ds', by rw [upd_ne (fun e : b' = n0 => nb (by rw [← e]; exact mb'))]; exact oth _ _ (fun e => by rw [e, ed] at h3; cases h3) h3, h4⟩
    · rintro σ H3 ⟨bs, y2, y3, y4, rfl, s3, el, ed, G, nl⟩
      rw [List.length_map, ll] at ed G
      have lk := Paired.length G.gr
      refine ⟨_, rfl, d, _, rfl, ed, fun o D hD => ?_⟩
      have nbd : ∀ b ∈ bs, b ≠ d := fun b hb e => by
        obtain ⟨j, ej⟩ := List.mem_iff_getElem?.mp hb
        obtain ⟨p, _, ds, g5, _⟩ := paired_at2 G.gr ej
        rw [e, ed] at g5
        cases g5
      have s4 : Same H (upd H3 d (.frz o (.dT (kvz (keysN zs' zs'.length) bs)))) := upd_keep s3 hd
      have ed4 : upd H3 d (.frz o (.dT (kvz (keysN zs' zs'.length) bs))) d = some (.frz o (.dT (kvz (keysN zs' zs'.length) bs))) := upd_same
      have gr4 : Paired (GrL K H (upd H3 d (.frz o (.dT (kvz (keysN zs' zs'.length) bs)))) (ofKey zs')) bs (keysN zs' zs'.length) := by
        have g := G.gr
        rw [List.take_length] at g
        exact paired_upd g fun j b p h1 h2 ⟨ds, h3, h4⟩ => ⟨ds, by rw [upd_ne (nbd b (List.mem_of_getElem? h1))]; exact h3, h4⟩
      generalize upd H3 d (.frz o (.dT (kvz (keysN zs' zs'.length) bs))) = H4 at s4 ed4 gr4 hD
      have fD : H D = none := s4.free hD
      have nDd : D ≠ d := fun e => by rw [e, ed4] at hD; cases hD
      have nbD : ∀ b ∈ bs, b ≠ D := fun b hb e => by
        obtain ⟨j, ej⟩ := List.mem_iff_getElem?.mp hb
        obtain ⟨p, _, ds, g5, _⟩ := paired_at2 gr4 ej
        rw [e, hD] at g5
        cases g5
      have lkz : (keysN zs' zs'.length).length ≤ zs'.length := metK_len _ _
      let cl : Nat → List Cl := fun i => (((keysN zs' zs'.length).take i).map fun p => (p, ofKey zs' p)).filter fun c => decide (1 < c.2.length)
      have cll : ∀ i, (cl i).length < 64 := fun i => by
        have h1 : (cl i).length ≤ (((keysN zs' zs'.length).take i).map fun p => (p, ofKey zs' p)).length := List.length_filter_le _ _
        rw [List.length_map, List.length_take] at h1
        omega
      have cl_s : ∀ i p, (keysN zs' zs'.length)[i]? = some p → cl (i + 1) = if 1 < (ofKey zs' p).length then cl i ++ [(p, ofKey zs' p)] else cl i := fun i p e => by
        show (((keysN zs' zs'.length).take (i + 1)).map _).filter _ = _
        rw [take_snoc e, List.map_append, List.filter_append]
        by_cases c : 1 < (ofKey zs' p).length
        · rw [if_pos c]; simp [cl, c]
        · rw [if_neg c]; simp [cl, c]
      let CT : Hp → Addr → Cl → Prop := fun H5 t c => ∃ (b : Addr) (ds : List Addr), b ∈ bs ∧ H5 t = some (.tup [.int c.1.1, .str c.1.2, .ref b]) ∧ H5 b = some (.lst (ds.map V.ref)) ∧ Paired (dR K H) ds c.2
      have CTs : ∀ {H5 H6 : Hp} {us : List Addr} {cs : List Cl}, Same H5 H6 → Paired (CT H5) us cs → Paired (CT H6) us cs := fun s p => paired_imp (fun t c ⟨b, ds, h1, h2, h3, h4⟩ => ⟨b, ds, h1, s _ _ h2, s _ _ h3, h4⟩) p
      have CTD : ∀ {H5 : Hp} {us : List Addr} {cs : List Cl} {xs ys : List V}, H5 D = some (.lst xs) → Paired (CT H5) us cs → Paired (CT (upd H5 D (.lst ys))) us cs := fun e p => paired_imp (fun t c ⟨b, ds, h1, h2, h3, h4⟩ => ⟨b, ds, h1, by rw [upd_ne (fun z => by rw [z, e] at h2; cases h2)]; exact h2, by rw [upd_ne (nbD b h1)]; exact h3, h4⟩) p
      refine compG_items (fun i ys σ5 H5 => ∃ (us : List Addr) (y0 y1 : Option V), ys = us.map V.ref ∧ σ5 = [y0, y1] ∧ Same H H5 ∧ H5 d = some (.frz o (.dT (kvz (keysN zs' zs'.length) bs))) ∧ H5 D = some (.lst ys) ∧ Paired (GrL K H H5 (ofKey zs')) bs (keysN zs' zs'.length) ∧ Paired (CT H5) us (cl i))
        ⟨[], none, none, rfl, rfl, s4.trans (same_laid hD _), by rw [upd_ne (Ne.symm nDd)]; exact ed4, upd_same, paired_upd gr4 fun j b p h1 h2 ⟨ds, h3, h4⟩ => ⟨ds, by rw [upd_ne (nbD b (List.mem_of_getElem? h1))]; exact h3, h4⟩, .nil⟩ ?_ ?_ ?_
      · rintro i ys σ5 H5 _ ⟨us, y0, y1, rfl, rfl, s5, ed5, _⟩
        exact ed5
      · rintro i kv ys σ5 H5 t b' ekv ⟨us, y0, y1, rfl, rfl, s5, ed5, eD5, gr5, ct5⟩ ht hb'
        obtain ⟨p, b, ep, eb, rfl⟩ := kvz_at ekv
        have mb : b ∈ bs := List.mem_of_getElem? eb
        obtain ⟨p', ep', ds, hb5, pd⟩ := paired_at2 gr5 eb
        rw [ep] at ep'
        cases ep'
        have k6 := same_laid ht (.tup [V.ref b', V.ref b])
        have et6 : upd H5 t (.tup [V.ref b', V.ref b]) t = some (.tup [V.ref b', V.ref b]) := upd_same
        show gTup K 2 _ _ _ (upd H5 t (.tup [V.ref b', V.ref b])) _
        generalize upd H5 t (.tup [V.ref b', V.ref b]) = H6 at k6 et6
        refine ⟨t, _, rfl, SqT.of et6, rfl, _, _, rfl, _, _, rfl, rfl, ?_⟩
        have hb6 := k6 _ _ hb5
        have e6 : SqT K H6 b' [.int p.1, .str p.2] := SqT.of (k6 _ _ hb')
        refine ⟨_, rfl, b, _, rfl, .inl (SqL.of hb6), _, _, rfl, rfl, _, rfl, ?_⟩
        have lus : us.length = (cl i).length := Paired.length ct5
        have ldl : ds.length = (ofKey zs' p).length := Paired.length pd
        have st := cl_s i p ep
        refine ite2 (fun c => ?_) (fun c => ?_)
        · have c' : 1 < (ofKey zs' p).length := by have := of_decide_eq_true c; rw [List.length_map] at this; omega
          rw [if_pos c'] at st
          refine ⟨_, rfl, b', _, _, _, rfl, rfl, e6, atI_nat (j := 0) rfl, _, rfl, b', _, _, _, rfl, rfl, e6, atI_nat (j := 1) rfl, _, rfl, (by show 3 ≤ sizeLine; decide), fun t2 ht2 => ?_⟩
          have k7 := same_laid ht2 (.tup [V.int p.1, V.str p.2, V.ref b])
          have et7 : upd H6 t2 (.tup [V.int p.1, V.str p.2, V.ref b]) t2 = some (.tup [V.int p.1, V.str p.2, V.ref b]) := upd_same
          generalize upd H6 t2 (.tup [V.int p.1, V.str p.2, V.ref b]) = H7 at k7 et7
          have k57 := k6.trans k7
          have eD7 := k57 _ _ eD5
          have nt2 : t2 ≠ D := fun z => by rw [z, eD7] at et7; cases et7
          refine ⟨eD7, fits' (by rw [List.length_map, lus]; have := cll i; omega), us ++ [t2], _, _, by rw [List.map_append]; rfl, rfl, upd_keep (s5.trans k57) fD, by rw [upd_ne (Ne.symm nDd)]; exact k57 _ _ ed5, upd_same, paired_upd gr5 fun j b p h1 h2 ⟨ds, h3, h4⟩ => ⟨ds, by rw [upd_ne (nbD b (List.mem_of_getElem? h1))]; exact k57 _ _ h3, h4⟩, ?_⟩
          rw [st]
          exact paired_snoc ⟨b, ds, mb, by rw [upd_ne nt2]; exact et7, by rw [upd_ne (nbD b mb)]; exact k57 _ _ hb5, pd⟩ (CTD eD7 (CTs k57 ct5))
        · have c' : ¬ 1 < (ofKey zs' p).length := fun z => c (decide_eq_true (by rw [List.length_map]; omega))
          rw [if_neg c'] at st
          refine ⟨us, _, _, rfl, rfl, s5.trans k6, k6 _ _ ed5, k6 _ _ eD5, paired_upd gr5 fun j b p h1 h2 ⟨ds, h3, h4⟩ => ⟨ds, k6 _ _ h3, h4⟩, ?_⟩
          rw [st]
          exact CTs k6 ct5
      · rintro ys σ5 H5 ⟨us, y0, y1, rfl, rfl, s5, ed5, eD5, gr5, ct5⟩
        refine q zs' D us H5 pm srt s5 fD eD5 ?_
        have e9 : cl (kvz (keysN zs' zs'.length) bs).length = clsh zs' := by
          show (((keysN zs' zs'.length).take _).map _).filter _ = _
          rw [kvz_len lk, List.take_length]
          rfl
        rw [← e9]
        exact paired_imp (fun t c ⟨b, ds, h1, h2, h3, h4⟩ => ⟨b, ds, nbD b h1, h2, h3, h4, G.fr b h1⟩) ct5
end
end K11
namespace L2
open PySem PySem.Spec PyProof.Rows
theorem cxK1 {CX : CXT} {P : Program} {w : World} {K : PySem.W.Frag} {mg : Str → Option Value} {base : Heap} {N : List Str} {qual : Str} {scope : Scope} {f : Addr} {cd : Value} {A : Around} {outer : List Env} {s : Shared} {H : Hp} {E : XK} : (cxOf CX P w K mg base N qual scope f cd A outer s H E).nox.K = K := rfl
end L2
namespace K11
open PySem L2 ST
theorem mod3 (c : Int) : c % 3 = 0 ∨ c % 3 = 1 ∨ c % 3 = 2 := by omega
theorem mem_pks (c : Int) {wd : Str} (h : wd ∈ wds) : (c % 3, wd) ∈ pks := by
  unfold wds at h
  simp only [List.mem_cons, List.not_mem_nil, or_false] at h
  rcases mod3 c with e | e | e <;> rw [e] <;> rcases h with rfl | rfl | rfl | rfl <;> decide +kernel
theorem at4 (x : Int) : ∃ wd : Str, wd ∈ wds ∧ atI [V.str "a", V.str "b", V.str "c", V.str ""] (x % 4) = some (.str wd) := by
  have : x % 4 = 0 ∨ x % 4 = 1 ∨ x % 4 = 2 ∨ x % 4 = 3 := by omega
  rcases this with e | e | e | e <;> rw [e]
  · exact ⟨"a", by decide +kernel, rfl⟩
  · exact ⟨"b", by decide +kernel, rfl⟩
  · exact ⟨"c", by decide +kernel, rfl⟩
  · exact ⟨"", by decide +kernel, rfl⟩
theorem sqt_lst {K : PySem.W.Frag} {H : Hp} {D t : Addr} {xs ys : List V} {o : HO} (e : H D = some (.lst ys)) (h : SqT K H t xs) : SqT K (upd H D o) t xs := by
  rcases h with (h | ⟨u, h⟩) | h
  · exact .inl (.inl (by rw [upd_ne (fun z => by rw [z, e] at h; cases h)]; exact h))
  · exact .inl (.inr ⟨u, by rw [upd_ne (fun z => by rw [z, e] at h; cases h)]; exact h⟩)
  · exact .inr h
theorem cut_len {xs : List V} {m : Nat} (h : m ≤ 50) : (cutV xs (some 1) (some (1 + (m : Int)))).length ≤ 50 := by
  unfold cutV
  rw [show (1 : Int) + (m : Int) = ((1 + m : Nat) : Int) by omega, show (1 : Int) = ((1 : Nat) : Int) from rfl, HT.sIx_nat, HT.sIx_nat, List.length_take, List.length_drop]
  omega
theorem d3R.same {K : PySem.W.Frag} {H H' : Hp} {t : Addr} {z : D3} (s : Same H H') (h : d3R K H t z) : d3R K H' t z := let ⟨b, h1, h2⟩ := h; ⟨b, s.tup h1, s.tup h2⟩
section
variable {P : Program} {w : World} {K : PySem.W.Frag} {mg : Str → Option Value} {base : Heap} {f : Addr} {fd : FuncData}
def spCell (K : PySem.W.Frag) : Sp := fun vs H Q _ => ∃ (a : Addr) (ns : List Int) (k : Nat), vs = [.ref a, .int (k : Int)] ∧ SqL K H a (ns.map V.int) ∧ ns.length ≤ 1000 ∧ ∀ n : Int, Q (.int n) H
theorem scCell : FnScope ["_law_script", "_law_k"] ["_law_script", "_law_k"] (defScope sCell) := ⟨rfl, rfl, rfl, by decide +kernel, rfl, by decide +kernel, by decide +kernel⟩
theorem ok_cell (F : Fun K "_law_cell_at" "_law_cell_at" sCell f fd) (T : Txt mg) : FnOk P w K mg base CX0 1 f fd ["_law_script", "_law_k"] (spCell K) := by
  refine F.ok scCell (fun vs H Q E h => ?_) (fun cdv A outer s H vs Q E hr h => ?_)
  · obtain ⟨a, ns, k, rfl, _⟩ := h; rfl
  · obtain ⟨a, ns, k, rfl, hS, hn, q⟩ := h
    refine ⟨_, pss_cons (ps_if (pt_cmpR op_lt (pv 1) (pe_callB call_len_seq rfl T.len PySem.boot_len (pa_cons (pv 0) pa_nil)) (nomark _)) (pss_one (ps_ret (pe_ix ix_list (pv 0) (pv 1) (fun _ _ => rfl)))) pss_nil) (pss_one (ps_ret pe_int)), ?_⟩
    refine ⟨_, rfl, _, rfl, a, _, rfl, .inl hS, _, _, rfl, rfl, _, rfl, ?_⟩
    refine ite2 (fun cc => ?_) (fun _ => q 0)
    have lt := of_decide_eq_true cc
    rw [List.length_map] at lt
    have lt' : k < ns.length := by omega
    refine ⟨_, rfl, _, rfl, a, _, _, .int ns[k], rfl, rfl, hS, atI_nat (by rw [List.getElem?_map, List.getElem?_eq_getElem lt']; rfl), q _⟩
def spFree (K : PySem.W.Frag) : Sp := fun vs H Q _ => ∃ (a : Addr) (ns : List Int) (m : Nat), vs = [.ref a, .int 1, .int (m : Int), .int 6] ∧ SqL K H a (ns.map V.int) ∧ ns.length ≤ 1000 ∧ m ≤ 50 ∧ ∀ (l : Addr) (ts : List Addr) (zs : List D3) (H' : Hp), Same H H' → H l = none → H' l = some (.lst (ts.map V.ref)) → Paired (d3R K H') ts zs → Srt lt3 zs → zs.Nodup → zs.length ≤ 50 → (∀ z ∈ zs, keyOf z ∈ pks) → Q (.ref l) H'
theorem scFree : FnScope ["_law_script", "_law_at", "_law_many", "_law_rules", "_law_deeds", "_law_cell", "_law_way", "_law_deed", "_law_word"] ["_law_script", "_law_at", "_law_many", "_law_rules"] (defScope sFree) := ⟨rfl, rfl, rfl, by decide +kernel, rfl, by decide +kernel, by decide +kernel⟩
theorem ok_free (F : Fun K "_law_free_deeds" "_law_free_deeds" sFree f fd) (T : Txt mg) : FnOk P w K mg base CX0 1 f fd ["_law_script", "_law_at", "_law_many", "_law_rules"] (spFree K) := by
  refine F.ok scFree (fun vs H Q E h => ?_) (fun cdv A outer s H vs Q E hr h => ?_)
  · obtain ⟨a, ns, m, rfl, _⟩ := h; rfl
  · obtain ⟨a, ns, m, rfl, hS, hns, hm, q⟩ := h
    have hu := hu_of hr
    have hu0 : (A.deeper (PyProof.Rows.envOfC ("_law_free_deeds" : Str) (defScope sFree) s.heap.objs.size f cdv)).units < cLine := Nat.lt_of_le_of_lt (by omega) hu
    have hu20 : (A.deeper (PyProof.Rows.envOfC ("_law_free_deeds" : Str) (defScope sFree) s.heap.objs.size f cdv)).units + 20 < cLine := Nat.lt_of_le_of_lt (by omega) hr.un
    refine ⟨_, pss_cons (ps_set (i := 4) scFree.nd rfl (Or.inl rfl) (pe_lst pa_nil))
      (pss_cons (ps_for PassesOwn.never rfl (pi_list (pe_slice sl_list (pv 0) (po_some (pv 1)) (po_some (pe_op op_add (pv 1) (pv 2))))) (pg_name (i := 5) scFree.nd rfl (Or.inl rfl))
        (pss_cons (ps_set (i := 6) scFree.nd rfl (Or.inl rfl) (pe_op op_mod (pe_op op_fdiv (pv 5) pe_int) pe_int))
        (pss_cons (ps_set (i := 7) scFree.nd rfl (Or.inl rfl) (pe_tup (@pa_cons _ _ _ _ _ pe_str (@pa_cons _ _ _ _ _ (pe_op op_mod (pe_op op_fdiv (pv 5) pe_int) pe_int) (@pa_nil _) rfl) rfl)))
        (pss_cons (ps_cutS (ps_if (PW.pt (pw_or (pt_cmpR op_eq (pv 6) pe_int (nomark _)) (pw_or1 (pt_cmpR op_eq (pv 6) pe_int (nomark _))))) (pss_one (ps_set (i := 7) scFree.nd rfl (Or.inl rfl) (pe_tup (@pa_cons _ _ _ _ _ pe_str (@pa_cons _ _ _ _ _ (pe_op op_mod (pe_op op_fdiv (pv 5) pe_int) (pv 3)) (@pa_nil _) rfl) rfl)))) pss_nil))
        (pss_cons (ps_cutS (ps_if (PW.pt (pw_and (pt_cmpR op_eq (pv 6) pe_int (nomark _)) (pw_and1 (pt_cmpR op_eq (pe_op op_mod (pe_op op_fdiv (pv 5) pe_int) pe_int) pe_int (nomark _))))) (pss_one (ps_set (i := 7) scFree.nd rfl (Or.inl rfl) (pe_tup (@pa_cons _ _ _ _ _ pe_str (@pa_nil _) rfl)))) pss_nil))
        (pss_cons (ps_set (i := 8) scFree.nd rfl (Or.inl rfl) (@pe_ix _ _ _ _ _ _ _ ix_list (@pe_lst _ _ _ _ (@pa_cons _ _ _ _ _ pe_str (@pa_cons _ _ _ _ _ pe_str (@pa_cons _ _ _ _ _ pe_str (@pa_cons _ _ _ _ _ pe_str (@pa_nil _) rfl) rfl) rfl) rfl)) (pe_op op_mod (pe_op op_fdiv (pv 5) pe_int) pe_int) (fun _ _ => rfl)))
        (pss_cons (ps_cutS (ps_if (pt_cmpR (op_eqTT hu0) (pv 7) (pe_tup (@pa_cons _ _ _ _ _ pe_str (@pa_nil _) rfl)) (nomark _)) (pss_one (ps_set (i := 8) scFree.nd rfl (Or.inl rfl) pe_str)) pss_nil))
        (pss_cons (ps_cutS (ps_if (PW.pt (pw_and (pt_cmpR op_eq (pe_ix ix_tup (pv 7) pe_int (fun _ _ => rfl)) pe_str (nomark _)) (pw_and1 (pt_cmpR op_eq (pv 8) pe_str (nomark _))))) (pss_one (ps_set (i := 7) scFree.nd rfl (Or.inl rfl) (pe_tup (@pa_cons _ _ _ _ _ pe_str (@pa_cons _ _ _ _ _ (pe_op op_mod (pe_op op_fdiv (pv 5) pe_int) (pv 3)) (@pa_nil _) rfl) rfl)))) pss_nil))
        (pss_one (ps_expr (pe_bm PySem.F.plainAttrs_list PySem.F.slot_list_append PySem.F.type_list_append mt_append (pv 4) (pa_cons (pe_tup (pa_cons (pe_op op_mod (pv 5) pe_int) (pa_cons (pv 8) (pa_cons (pv 7) pa_nil)))) pa_nil))))))))))))
      (pss_one (ps_ret (pe_sortedSet3 rfl hu20 rfl T.srt rfl T.set (pv 4))))), ?_⟩
    dsimp only [cxK1]
    refine ⟨(by show 0 ≤ sizeLine; decide), fun D hD => ?_⟩
    have s1 := same_laid hD (.lst [])
    have e1 : upd H D (.lst []) D = some (.lst []) := upd_same
    generalize upd H D (.lst []) = H1 at s1 e1
    refine ⟨_, rfl, _, rfl, _, rfl, _, rfl, _, rfl, _, _, rfl, rfl, _, rfl, a, _, rfl, s1.seq hS, fun C hC => ?_⟩
    have cl := cut_len (xs := ns.map V.int) hm
    obtain ⟨cs, ec, _, _⟩ := cut_ints ns (some 1) (some (1 + (m : Int)))
    rw [ec] at cl ⊢
    rw [List.length_map] at cl
    have s2 := same_laid hC (.lst (cs.map V.int))
    have eC : upd H1 C (.lst (cs.map V.int)) C = some (.lst (cs.map V.int)) := upd_same
    generalize upd H1 C (.lst (cs.map V.int)) = H2 at s2 eC
    have eD2 := s2 _ _ e1
    have nCD : C ≠ D := fun z => by rw [z, e1] at hC; cases hC
    have fC : H C = none := s1.free hC
    refine ⟨C, rfl, ⟨_, SqL.of eC⟩, ?_⟩
    refine for_list (xs := cs.map V.int) (fun i σ H3 => ∃ (us : List Addr) (zs : List D3) (y5 y6 y7 y8 : Option V), σ = [some (.ref a), some (.int 1), some (.int (m : Int)), some (.int 6), some (.ref D), y5, y6, y7, y8] ∧ Same H H3 ∧ H3 C = some (.lst (cs.map V.int)) ∧ H3 D = some (.lst (us.map V.ref)) ∧ Paired (d3R K H3) us zs ∧ zs.length = i ∧ ∀ z ∈ zs, keyOf z ∈ pks)
      ⟨[], [], none, none, none, none, rfl, s1.trans s2, eC, eD2, .nil, rfl, fun z hz => (by cases hz)⟩ ?_ ?_ ?_
    · rintro i σ H3 _ ⟨us, zs, y5, y6, y7, y8, rfl, s3, e3, _⟩
      exact SqL.of e3
    · rintro i x σ H3 ex ⟨us, zs, y5, y6, y7, y8, rfl, s3, eC3, eD3, pr, lz, okz⟩
      have li := (List.getElem?_eq_some_iff.mp ex).1
      rw [List.length_map] at li
      rw [List.getElem?_map] at ex
      obtain ⟨c, _, rfl⟩ := Option.map_eq_some_iff.mp ex
      have lus := Paired.length pr
      let J : Option V → St → Hp → Prop := fun y8 σ' H' => ∃ (wy : Int) (t : Addr) (d : DK), σ' = [some (.ref a), some (.int 1), some (.int (m : Int)), some (.int 6), some (.ref D), some (.int c), some (.int wy), some (.ref t), y8] ∧ Same H3 H' ∧ dR K H' t d
      have cd : ∀ j : Int, 0 < j → j < 1073741824 → CDiv c j := fun j h1 h2 => ⟨h1, h2⟩
      refine ⟨_, rfl, _, _, rfl, rfl, cd _ (by decide) (by decide), _, _, rfl, rfl, (by decide), ?_⟩
      refine ⟨_, rfl, _, _, rfl, rfl, cd _ (by decide) (by decide), _, _, rfl, rfl, (by decide), (by show 2 ≤ sizeLine; decide), fun t1 ht1 => ?_⟩
      have a1 := same_laid ht1 (.tup [V.str "step", V.int (c / 48 % 5)])
      have b1 : dR K (upd H3 t1 (.tup [V.str "step", V.int (c / 48 % 5)])) t1 ("step", some (c / 48 % 5)) := SqT.of upd_same
      show tCutS _ _ _ (upd H3 t1 (.tup [V.str "step", V.int (c / 48 % 5)]))
      generalize upd H3 t1 (.tup [V.str "step", V.int (c / 48 % 5)]) = H4 at a1 b1
      refine ⟨J y8, ?_, ?_⟩
      · refine ⟨_, rfl, rfl, _, rfl, ?_⟩
        have make : ∀ {R : St → Hp → Prop}, (∀ t (d : DK) H', Same H4 H' → dR K H' t d → R [some (.ref a), some (.int 1), some (.int (m : Int)), some (.int 6), some (.ref D), some (.int c), some (.int (c / 12 % 4)), some (.ref t), y8] H') → ∀ p, H4 p = none → R [some (.ref a), some (.int 1), some (.int (m : Int)), some (.int 6), some (.ref D), some (.int c), some (.int (c / 12 % 4)), some (.ref p), y8] (upd H4 p (.tup [V.str "make", V.int (c / 48 % 6)])) := fun h p hp => h p ("make", some (c / 48 % 6)) _ (same_laid hp _) (SqT.of upd_same)
        have yes : ∀ p, H4 p = none → J y8 [some (.ref a), some (.int 1), some (.int (m : Int)), some (.int 6), some (.ref D), some (.int c), some (.int (c / 12 % 4)), some (.ref p), y8] (upd H4 p (.tup [V.str "make", V.int (c / 48 % 6)])) := make fun t d H' s' r' => ⟨_, t, d, rfl, a1.trans s', r'⟩
        refine ite2 (fun _ => iteT ?_) (fun _ => ⟨_, rfl, rfl, _, rfl, ite2 (fun _ => ?_) (fun _ => ?_)⟩)
        · exact ⟨_, rfl, _, _, rfl, rfl, cd _ (by decide) (by decide), _, rfl, _, _, rfl, rfl, (by decide), (by show 2 ≤ sizeLine; decide), yes⟩
        · exact ⟨_, rfl, _, _, rfl, rfl, cd _ (by decide) (by decide), _, rfl, _, _, rfl, rfl, (by decide), (by show 2 ≤ sizeLine; decide), yes⟩
        · exact ⟨_, t1, _, rfl, a1, b1⟩
      rintro _ H5 ⟨wy, t2, d2, rfl, a2, b2⟩
      refine ⟨J y8, ?_, ?_⟩
      · refine ⟨_, rfl, rfl, _, rfl, ?_⟩
        refine ite2 (fun _ => ⟨_, rfl, _, _, rfl, rfl, cd _ (by decide) (by decide), _, _, rfl, rfl, (by decide), rfl, _, rfl, ite2 (fun _ => ?_) (fun _ => ?_)⟩) (fun _ => iteF ?_)
        · exact ⟨(by show 1 ≤ sizeLine; decide), fun p hp => ⟨wy, p, ("done", none), rfl, a2.trans (same_laid hp _), SqT.of upd_same⟩⟩
        · exact ⟨wy, t2, d2, rfl, a2, b2⟩
        · exact ⟨wy, t2, d2, rfl, a2, b2⟩
      rintro _ H6 ⟨wy, t3, d3, rfl, a3, b3⟩
      refine ⟨(by show 4 ≤ sizeLine; decide), fun l4 hl4 => ?_⟩
      have k7 := same_laid hl4 (.lst [V.str "a", V.str "b", V.str "c", V.str ""])
      have e7 : SqL K (upd H6 l4 (.lst [V.str "a", V.str "b", V.str "c", V.str ""])) l4 [V.str "a", V.str "b", V.str "c", V.str ""] := SqL.of upd_same
      obtain ⟨wd, hwd, ewd⟩ := at4 (c / 3)
      refine ⟨_, rfl, _, _, rfl, rfl, cd _ (by decide) (by decide), _, _, rfl, rfl, (by decide), l4, _, _, _, rfl, rfl, e7, ewd, ?_⟩
      show tCutS _ _ _ (upd H6 l4 (.lst [V.str "a", V.str "b", V.str "c", V.str ""]))
      generalize upd H6 l4 (.lst [V.str "a", V.str "b", V.str "c", V.str ""]) = H7 at k7 e7
      have a7 := a3.trans k7
      have b7 : dR K H7 t3 d3 := k7.tup b3
      refine ⟨fun σ' H' => ∃ wd, wd ∈ wds ∧ J (some (.str wd)) σ' H', ?_, ?_⟩
      · refine ⟨_, rfl, (by show 1 ≤ sizeLine; decide), fun p hp => ?_⟩
        have k8 := same_laid hp (.tup [V.str "done"])
        have e8 : SqT K (upd H7 p (.tup [V.str "done"])) p [V.str "done"] := SqT.of upd_same
        generalize upd H7 p (.tup [V.str "done"]) = H8 at k8 e8
        have fl : ((dKs d3).map kV).all flatV = true := by obtain ⟨z, o⟩ := d3; cases o <;> rfl
        refine ⟨t3, p, _, _, rfl, rfl, k8.tup b7, e8, fl, rfl, _, rfl, ite2 (fun _ => ?_) (fun _ => ?_)⟩
        · exact ⟨"", by decide +kernel, wy, t3, d3, rfl, a7.trans k8, k8.tup b7⟩
        · exact ⟨wd, hwd, wy, t3, d3, rfl, a7.trans k8, k8.tup b7⟩
      rintro _ H8 ⟨wd, hwd, wy, t4, d4, rfl, a4, b4⟩
      refine ⟨fun σ' H' => J (some (.str wd)) σ' H', ?_, ?_⟩
      · have at0 : atI ((dKs d4).map kV) 0 = some (.str d4.1) := by obtain ⟨z, o⟩ := d4; cases o <;> exact atI_nat (j := 0) rfl
        refine ⟨_, rfl, t4, _, _, _, rfl, rfl, b4, at0, rfl, _, rfl, ?_⟩
        refine ite2 (fun _ => ⟨_, rfl, rfl, _, rfl, ite2 (fun _ => ?_) (fun _ => ?_)⟩) (fun _ => iteF ?_)
        · exact ⟨_, rfl, _, _, rfl, rfl, cd _ (by decide) (by decide), _, rfl, _, _, rfl, rfl, (by decide), (by show 2 ≤ sizeLine; decide), fun p hp => ⟨wy, p, ("make", some (c / 48 % 6)), rfl, a4.trans (same_laid hp _), SqT.of upd_same⟩⟩
        · exact ⟨wy, t4, d4, rfl, a4, b4⟩
        · exact ⟨wy, t4, d4, rfl, a4, b4⟩
      rintro _ H9 ⟨wy, t5, d5, rfl, a5, b5⟩
      have eD9 := a5 _ _ eD3
      refine ⟨_, rfl, .inl ⟨rfl, _, SqL.of eD9⟩, _, rfl, _, _, rfl, rfl, (by decide), _, rfl, _, rfl, (by show 3 ≤ sizeLine; decide), fun t6 ht6 => ?_⟩
      have k10 := same_laid ht6 (.tup [V.int (c % 3), V.str wd, V.ref t5])
      have e10 : SqT K (upd H9 t6 (.tup [V.int (c % 3), V.str wd, V.ref t5])) t6 [V.int (c % 3), V.str wd, V.ref t5] := SqT.of upd_same
      generalize upd H9 t6 (.tup [V.int (c % 3), V.str wd, V.ref t5]) = H10 at k10 e10
      have eD10 := k10 _ _ eD9
      have a10 := a5.trans k10
      have nw : d3R K H10 t6 (c % 3, wd, d5) := ⟨t5, e10, k10.tup b5⟩
      have up : ∀ {t : Addr} {z : D3}, d3R K H10 t z → d3R K (upd H10 D (.lst (us.map V.ref ++ [V.ref t6]))) t z := fun ⟨b, h1, h2⟩ => ⟨b, sqt_lst eD10 h1, sqt_lst eD10 h2⟩
      refine ⟨D, _, _, rfl, rfl, eD10, fits' (by rw [List.length_map]; omega), us ++ [t6], zs ++ [(c % 3, wd, d5)], _, _, _, _, rfl, upd_keep (s3.trans a10) hD, by rw [upd_ne nCD]; exact a10 _ _ eC3, by rw [upd_same, List.map_append]; rfl, paired_snoc (up nw) (paired_imp (fun t z h => up (d3R.same a10 h)) pr), by rw [List.length_append, List.length_singleton, lz], fun z hz => ?_⟩
      rcases List.mem_append.mp hz with h | h
      · exact okz z h
      · rw [List.mem_singleton.mp h]; exact mem_pks c hwd
    · rintro σ H3 ⟨us, zs, y5, y6, y7, y8, rfl, s3, eC3, eD3, pr, lz, okz⟩
      rw [List.length_map] at lz
      refine ⟨_, rfl, .mk D us zs (SqL.of eD3) pr (by omega) fun l ts' zs' hl pr' pm srt => ?_⟩
      have s4 := same_laid hl (.lst (ts'.map V.ref))
      refine q l ts' zs' _ (s3.trans s4) (s3.free hl) upd_same (paired_imp (fun t z h => d3R.same s4 h) pr') srt (pm.nodup_iff.mpr (dedK_nd _ _)) (by rw [pm.length_eq]; have := dedK_len d30 zs; omega) fun z hz => okz z ((dedK_mem _ _ _).mp (pm.mem_iff.mp hz))
end
end K11
namespace ST
open PySem PySem.Spec PyProof.Rows L2
theorem call_sortDK {X : Cx} : CallR X (.builtin "sorted") (fun xs H Q => ∃ a ts ds, xs = [.ref a] ∧ SqL X.K H a (ts.map V.ref) ∧ Paired (dR X.K H) ts ds ∧ ts.length < 64 ∧ ∀ l ts' ds', H l = none → Paired (dR X.K H) ts' ds' → ds'.Perm ds → Srt dLt ds' → Q (.ref l) (upd H l (.lst (ts'.map V.ref)))) := by
  intro pins s σ H xs us Q I r h
  obtain ⟨a, ts, ds, rfl, hq, hr, h64, q⟩ := h
  obtain ⟨u, rfl, rx⟩ := vals1 r
  cases (show u = Value.ref a from rx)
  obtain ⟨its, r', pl, hz⟩ := I.list hq
  have ei := refs_vals r'
  subst ei
  obtain ⟨m, hns, _⟩ := id I.loc
  let G : DK → Addr → Prop := fun d t => dR X.K H t d
  refine sortedL_key (sk := (dkSort X.prog X.w).wi G) True.intro hns pl.isList (paired_imp (fun t d h => ⟨h.is I, h⟩) hr) h64 fun h2 c ts' ds' kp ns2 he2 rel2 pm srt => ?_
  have lel : s.heap.objs.size ≤ s.heap.objs.size + 1 := Nat.le_succ _
  have l2 : ts'.length = ds'.length := Paired.length rel2
  have l3 := pm.length_eq
  have l4 := Paired.length hr
  refine ⟨.ref (s.heap.objs.size + 1), _, I.laidL (a := s.heap.objs.size + 1) (o := .lst (ts'.map V.ref)) (t' := s.toks) kp (fun m' hm => ?_) (get_ge lel) (I.hok.fresh lel) (show ObjOk X.prog X.w _ _ _ (.lst (ts'.map V.ref)) from ⟨?_, ts'.map Value.ref, c, vals_refs _, he2⟩), rfl, q _ ts' ds' (I.hok.fresh lel) (paired_imp (fun t z i => i.2) rel2) pm srt⟩
  · have e : m' = m := by
      obtain ⟨o, es, ep, ho, hdt, _, hf⟩ := hm
      obtain ⟨o2, es2, ep2, ho2, hdt2, _, hf2⟩ := hns
      rw [ho] at ho2
      cases ho2
      rw [hdt] at hdt2
      cases hdt2
      funext x
      rw [← hf x, ← hf2 x]
    rw [e]
    exact ns2
  · rw [List.length_map]
    exact fits (by omega)
end ST
namespace K11
open PySem L2 ST
def DRl (K : PySem.W.Frag) (D : Addr) (H : Hp) (t : Addr) (c : Cl) : Prop := ∃ (b : Addr) (ds : List Addr), b ≠ D ∧ H t = some (.tup [.int c.1.1, .str c.1.2, .ref b]) ∧ H b = some (.lst (ds.map V.ref)) ∧ Paired (dR K H) ds c.2
theorem DRl.same {K : PySem.W.Frag} {D : Addr} {H H' : Hp} {t : Addr} {c : Cl} (s : Same H H') (h : DRl K D H t c) : DRl K D H' t c := let ⟨b, ds, n, h1, h2, h3⟩ := h; ⟨b, ds, n, s _ _ h1, s _ _ h2, paired_imp (fun _ _ r => s.tup r) h3⟩
def clP (zs : List D3) (n : Nat) : List Cl := ((pks.take n).map fun p => (p, ofKey zs p)).filter fun c => decide (1 < c.2.length)
theorem clP_s {zs : List D3} {n : Nat} {p : PK} (e : pks[n]? = some p) : clP zs (n + 1) = if 1 < (ofKey zs p).length then clP zs n ++ [(p, ofKey zs p)] else clP zs n := by
  unfold clP
  rw [take_snoc e, List.map_append, List.filter_append]
  by_cases c : 1 < (ofKey zs p).length
  · rw [if_pos c]; simp [c]
  · rw [if_neg c]; simp [c]
theorem clP_len (zs : List D3) (n : Nat) : (clP zs n).length ≤ 12 := by
  have h1 : (clP zs n).length ≤ ((pks.take n).map fun p => (p, ofKey zs p)).length := List.length_filter_le _ _
  rw [List.length_map, List.length_take] at h1
  have : pks.length = 12 := rfl
  omega
theorem pks_at {i j : Nat} {wd : Str} (hi : i < 3) (e : wds[j]? = some wd) : pks[4 * i + j]? = some (((0 : Int) + (i : Int)), wd) := by
  have hj : j < 4 := (List.getElem?_eq_some_iff.mp e).1
  have e2 : wds[j]? = some wds[j] := List.getElem?_eq_getElem hj
  rw [e2] at e
  obtain rfl : wds[j] = wd := Option.some.inj e
  clear e e2
  match i, hi, j, hj with
  | 0, _, 0, _ => rfl
  | 0, _, 1, _ => rfl
  | 0, _, 2, _ => rfl
  | 0, _, 3, _ => rfl
  | 1, _, 0, _ => rfl
  | 1, _, 1, _ => rfl
  | 1, _, 2, _ => rfl
  | 1, _, 3, _ => rfl
  | 2, _, 0, _ => rfl
  | 2, _, 1, _ => rfl
  | 2, _, 2, _ => rfl
  | 2, _, 3, _ => rfl
section
variable {P : Program} {w : World} {K : PySem.W.Frag} {mg : Str → Option Value} {base : Heap} {f : Addr} {fd : FuncData}
def spDue (K : PySem.W.Frag) : Sp := fun vs H Q _ => ∃ (a : Addr) (ts : List Addr) (zs : List D3), vs = [.ref a] ∧ SqL K H a (ts.map V.ref) ∧ Paired (d3R K H) ts zs ∧ Srt lt3 zs ∧ zs.length < 64 ∧ ∀ (l : Addr) (us : List Addr) (H' : Hp), Same H H' → H' l = some (.lst (us.map V.ref)) → Paired (DRl K l H') us (dueL zs) → Q (.ref l) H'
theorem scDue : FnScope ["_law_deeds", "_law_due_here", "_law_room", "_law_word", "_law_some"] ["_law_deeds"] (defScope sDue) := ⟨rfl, rfl, rfl, by decide +kernel, rfl, by decide +kernel, by decide +kernel⟩
theorem nd5 : (["_law_number", "_law_other", "_law_deed", "_law_room", "_law_word"] : List Str).Nodup := by decide +kernel
theorem ok_due (F : Fun K "_law_due" "_law_due" sDue f fd) (T : Txt mg) : FnOk P w K mg base CX0 1 f fd ["_law_deeds"] (spDue K) := by
  refine F.ok scDue (fun vs H Q E h => ?_) (fun cdv A outer s H vs Q E hr h => ?_)
  · obtain ⟨a, ts, zs, rfl, _⟩ := h; rfl
  · obtain ⟨a, ts, zs, rfl, hS, hrl, hsr, hn, q⟩ := h
    refine ⟨_, pss_cons (ps_set (i := 1) scDue.nd rfl (Or.inl rfl) (pe_lst pa_nil))
      (pss_cons (ps_for PassesOwn.never rfl (pi_range1 rfl T.rng (pa_cons pe_int pa_nil)) (pg_name (i := 2) scDue.nd rfl (Or.inr rfl))
        (pss_one (ps_for PassesOwn.never rfl (pi_list (@pe_lst _ _ _ _ (@pa_cons _ _ _ _ _ pe_str (@pa_cons _ _ _ _ _ pe_str (@pa_cons _ _ _ _ _ pe_str (@pa_cons _ _ _ _ _ pe_str (@pa_nil _) rfl) rfl) rfl) rfl))) (pg_name (i := 3) scDue.nd rfl (Or.inr rfl))
          (pss_cons (ps_setC (iy := 4) ["_law_number", "_law_other", "_law_deed"] [(2, "_law_room"), (3, "_law_word")] scDue.nd rfl rfl rfl (pi_list (pv 0)) (caps_of rfl rfl) (by decide +kernel) rfl (by decide +kernel)
            (fun _ _ _ _ _ => pg_tupK (n := 3) K rfl (pgs_cons (pg_name (i := 0) nd5 rfl (Or.inl rfl)) (pgs_cons (pg_name (i := 1) nd5 rfl (Or.inl rfl)) (pgs_cons (pg_name (i := 2) nd5 rfl (Or.inl rfl)) pgs_nil))))
            (fun _ _ _ _ _ => pif_one (PW.pt (pw_and (pt_cmpR op_eq (pv 0) (pv 3) (nomark _)) (pw_and1 (pt_cmpR op_eq (pv 1) (pv 4) (nomark _))))))
            (fun _ _ _ _ _ => pv 2))
          (pss_one (ps_if (pt_cmpR op_gt (pe_callB call_len_seq rfl T.len PySem.boot_len (pa_cons (pv 4) pa_nil)) pe_int (nomark _)) (pss_one (ps_expr (pe_bm PySem.F.plainAttrs_list PySem.F.slot_list_append PySem.F.type_list_append mt_append (pv 1) (pa_cons (pe_tup (pa_cons (pv 2) (pa_cons (pv 3) (pa_cons (pe_callB call_sortDK rfl T.srt PyProof.Rows.boot_sorted (pa_cons (pv 4) pa_nil)) pa_nil)))) pa_nil)))) pss_nil))))))
      (pss_one (ps_ret (pv 1)))), ?_⟩
    dsimp only [cxK1]
    refine ⟨(by show 0 ≤ sizeLine; decide), fun D hD => ?_⟩
    have s1 := same_laid hD (.lst [])
    have e1 : upd H D (.lst []) D = some (.lst []) := upd_same
    generalize upd H D (.lst []) = H1 at s1 e1
    refine ⟨(3 : Int), rfl, by decide, by decide, ?_⟩
    rw [show (3 : Int).toNat = 3 from rfl]
    have lts := Paired.length hrl
    let I1 : Nat → Option V → St → Hp → Prop := fun n y2 σ H2 => ∃ (us : List Addr) (y3 y4 : Option V), σ = [some (.ref a), some (.ref D), y2, y3, y4] ∧ Same H H2 ∧ H2 D = some (.lst (us.map V.ref)) ∧ Paired (DRl K D H2) us (clP zs n)
    refine for_range (fun i σ H2 => ∃ y2, I1 (4 * i) y2 σ H2) ⟨none, [], none, none, rfl, s1, e1, .nil⟩ ?_ ?_
    · rintro i σ H2 hi ⟨y2, us, y3, y4, rfl, s2, e2, p2⟩
      refine ⟨(by show 4 ≤ sizeLine; decide), fun L hL => ?_⟩
      have k3 := same_laid hL (.lst [V.str "", V.str "a", V.str "b", V.str "c"])
      have eL : upd H2 L (.lst [V.str "", V.str "a", V.str "b", V.str "c"]) L = some (.lst (wds.map V.str)) := upd_same
      generalize upd H2 L (.lst [V.str "", V.str "a", V.str "b", V.str "c"]) = H3 at k3 eL
      have nLD : L ≠ D := fun z => by rw [z, e2] at hL; cases hL
      refine ⟨L, rfl, ⟨_, SqL.of eL⟩, ?_⟩
      refine for_list (xs := wds.map V.str) (fun j σ H4 => I1 (4 * i + j) (some (.int ((0 : Int) + (i : Int)))) σ H4 ∧ H4 L = some (.lst (wds.map V.str))) ⟨⟨us, y3, y4, rfl, s2.trans k3, k3 _ _ e2, paired_imp (fun _ _ r => r.same k3) p2⟩, eL⟩ ?_ ?_ ?_
      · rintro j σ H4 _ ⟨_, h⟩
        exact SqL.of h
      · rintro j x σ H4 ex ⟨⟨us, y3, y4, rfl, s4, e4, p4⟩, eL4⟩
        rw [List.getElem?_map] at ex
        obtain ⟨wd, ewd, rfl⟩ := Option.map_eq_some_iff.mp ex
        have pat := pks_at hi ewd
        have st := clP_s (zs := zs) pat
        refine ⟨_, rfl, a, rfl, ⟨_, s4.seq hS⟩, fun E1 hE1 => ?_⟩
        have nED : E1 ≠ D := fun z => by rw [z, e4] at hE1; cases hE1
        refine compG_list (xs := ts.map V.ref) (fun n ys σ2 H5 => ∃ (ds : List Addr) (y0 y1 y2 : Option V), ys = ds.map V.ref ∧ σ2 = [y0, y1, y2, some (.int ((0 : Int) + (i : Int))), some (.str wd)] ∧ Same H4 H5 ∧ H5 E1 = some (.lst ys) ∧ Paired (dR K H) ds (ofKey (zs.take n) ((0 : Int) + (i : Int), wd)))
          ⟨[], none, none, none, rfl, rfl, same_laid hE1 _, upd_same, .nil⟩ ?_ ?_ ?_
        · rintro n ys σ2 H5 _ ⟨ds, y0, y1, y2, rfl, rfl, s5, _⟩
          exact (s4.trans s5).seq hS
        · rintro n x ys σ2 H5 ex ⟨ds, y0, y1, y2, rfl, rfl, s5, eE5, p5⟩
          rw [List.getElem?_map] at ex
          obtain ⟨t, et, rfl⟩ := Option.map_eq_some_iff.mp ex
          obtain ⟨z, ez, b, v1, v2⟩ := paired_at2 hrl et
          have li := (List.getElem?_eq_some_iff.mp ez).1
          have ok5 := ofKey_snoc (zs.take n) z ((0 : Int) + (i : Int), wd)
          rw [← take_snoc ez] at ok5
          have ld := Paired.length p5
          have ll := ofKey_len (zs.take n) ((0 : Int) + (i : Int), wd)
          rw [List.length_take] at ll
          refine ⟨t, _, rfl, (s4.trans s5).tup v1, rfl, _, _, rfl, _, _, rfl, _, _, rfl, rfl, ?_⟩
          have no : ¬ keyOf z = ((0 : Int) + (i : Int), wd) → ∃ (ds' : List Addr) (y0 y1 y2 : Option V), ds.map V.ref = ds'.map V.ref ∧ [some (.int z.1), some (.str z.2.1), some (.ref b), some (.int ((0 : Int) + (i : Int))), some (.str wd)] = [y0, y1, y2, some (.int ((0 : Int) + (i : Int))), some (.str wd)] ∧ Same H4 H5 ∧ H5 E1 = some (.lst (ds.map V.ref)) ∧ Paired (dR K H) ds' (ofKey (zs.take (n + 1)) ((0 : Int) + (i : Int), wd)) := fun c => ⟨ds, _, _, _, rfl, rfl, s5, eE5, by rw [ok5, if_neg c]; exact p5⟩
          refine ⟨_, rfl, _, rfl, rfl, _, rfl, ?_⟩
          refine ite2 (fun c1 => ⟨_, rfl, _, rfl, rfl, _, rfl, ite2 (fun c2 => ?_) (fun c2 => ?_)⟩) (fun c1 => iteF ?_)
          · have h1 : z.1 = (0 : Int) + (i : Int) := by have := of_decide_eq_true c1; injection this
            have h2 : z.2.1 = wd := by have := of_decide_eq_true c2; injection this
            refine ⟨_, rfl, eE5, fits' (by rw [List.length_map]; omega), ds ++ [b], _, _, _, by rw [List.map_append]; rfl, rfl, ?_, upd_same, ?_⟩
            · exact fun b o hb => by
                rw [upd_ne (fun z => by rw [z, hE1] at hb; cases hb)]
                exact s5 b o hb
            · rw [ok5, if_pos (by unfold keyOf; rw [h1, h2])]
              exact paired_snoc v2 p5
          · exact no fun h => c2 (decide_eq_true (by injection h with _ h; rw [h]))
          · exact no fun h => c1 (decide_eq_true (by injection h with h; rw [h]))
        · rintro ys σ2 H5 ⟨ds, y0, y1, y2, rfl, rfl, s5, eE5, p5⟩
          rw [List.length_map, lts, List.take_length] at p5
          have ld := Paired.length p5
          have ll := ofKey_len zs ((0 : Int) + (i : Int), wd)
          have eD5 := s5 _ _ e4
          have s45 := s4.trans s5
          have p45 : Paired (DRl K D H5) us (clP zs (4 * i + j)) := paired_imp (fun _ _ r => r.same s5) p4
          refine ⟨_, rfl, E1, _, rfl, .inl (SqL.of eE5), _, _, rfl, rfl, _, rfl, ?_⟩
          refine ite2 (fun c => ?_) (fun c => ?_)
          · have c' : 1 < (ofKey zs ((0 : Int) + (i : Int), wd)).length := by have := of_decide_eq_true c; rw [List.length_map] at this; omega
            rw [if_pos c'] at st
            refine ⟨_, rfl, .inl ⟨rfl, _, SqL.of eD5⟩, _, rfl, _, rfl, _, rfl, E1, ds, _, rfl, SqL.of eE5, paired_imp (fun _ _ r => s45.tup r) p5, (by omega), fun l6 ds' dk' hl6 p6 pm srt => ?_⟩
            have edk : dk' = ofKey zs ((0 : Int) + (i : Int), wd) := srt_unique dLt_sto srt (ofKey_srt hsr _) pm
            subst edk
            have k6 := same_laid hl6 (.lst (ds'.map V.ref))
            have e6 : upd H5 l6 (.lst (ds'.map V.ref)) l6 = some (.lst (ds'.map V.ref)) := upd_same
            generalize upd H5 l6 (.lst (ds'.map V.ref)) = H6 at k6 e6
            refine ⟨(by show 3 ≤ sizeLine; decide), fun t7 ht7 => ?_⟩
            have k7 := same_laid ht7 (.tup [V.int ((0 : Int) + (i : Int)), V.str wd, V.ref l6])
            have e7 : upd H6 t7 (.tup [V.int ((0 : Int) + (i : Int)), V.str wd, V.ref l6]) t7 = some (.tup [V.int ((0 : Int) + (i : Int)), V.str wd, V.ref l6]) := upd_same
            generalize upd H6 t7 (.tup [V.int ((0 : Int) + (i : Int)), V.str wd, V.ref l6]) = H7 at k7 e7
            have k57 := k6.trans k7
            have eD7 := k57 _ _ eD5
            have lu := Paired.length p4
            have lc := clP_len zs (4 * i + j)
            have nl6 : l6 ≠ D := fun z => by rw [z, eD5] at hl6; cases hl6
            have e67 := k7 _ _ e6
            refine ⟨D, _, _, rfl, rfl, eD7, fits' (by rw [List.length_map]; omega), ?_⟩
            have up : ∀ {t : Addr} {c : Cl}, DRl K D H7 t c → DRl K D (upd H7 D (.lst (us.map V.ref ++ [V.ref t7]))) t c := fun ⟨b, ds, n, h1, h2, h3⟩ => ⟨b, ds, n, by rw [upd_ne (fun z => by rw [z, eD7] at h1; cases h1)]; exact h1, by rw [upd_ne n]; exact h2, paired_imp (fun _ _ r => sqt_lst eD7 r) h3⟩
            refine ⟨⟨us ++ [t7], _, _, rfl, upd_keep (s45.trans k57) hD, by rw [upd_same, List.map_append]; rfl, ?_⟩, by rw [upd_ne nLD]; exact (s5.trans k57) _ _ eL4⟩
            rw [show clP zs (4 * i + (j + 1)) = clP zs (4 * i + j) ++ [(((0 : Int) + (i : Int), wd), ofKey zs ((0 : Int) + (i : Int), wd))] from st]
            exact paired_snoc (up ⟨l6, ds', nl6, e7, e67, paired_imp (fun _ _ r => k57.tup r) p6⟩) (paired_imp (fun _ _ r => up (r.same k57)) p45)
          · have c' : ¬ 1 < (ofKey zs ((0 : Int) + (i : Int), wd)).length := fun z => c (decide_eq_true (by rw [List.length_map]; omega))
            rw [if_neg c'] at st
            exact ⟨⟨us, _, _, rfl, s45, eD5, by rw [show clP zs (4 * i + (j + 1)) = clP zs (4 * i + j) from st]; exact p45⟩, s5 _ _ eL4⟩
      · rintro σ H4 ⟨h, _⟩
        rw [List.length_map] at h
        exact ⟨_, h⟩
    · rintro σ H2 ⟨y2, us, y3, y4, rfl, s2, e2, p2⟩
      exact ⟨_, rfl, q D us H2 s2 e2 p2⟩
end
end K11
namespace K11
open PySem L2 ST
theorem deq_dk {K : PySem.W.Frag} {H : Hp} {t t' : Addr} {d : DK} (h : dR K H t d) (h' : dR K H t' d) : DEq K H 1 (.ref t) (.ref t') := by
  refine .inr ⟨t, t', _, _, rfl, rfl, .inr ⟨h, h'⟩, ?_⟩
  obtain ⟨z, o⟩ := d
  cases o with
  | none => exact .cons (DEq.self (.inl rfl) 0) .nil
  | some i => exact .cons (DEq.self (.inl rfl) 0) (.cons (DEq.self (.inl rfl) 0) .nil)
theorem deq_dks {K : PySem.W.Frag} {H : Hp} : ∀ {ts ts' : List Addr} {ds : List DK}, Paired (dR K H) ts ds → Paired (dR K H) ts' ds → Paired (DEq K H 1) (ts.map V.ref) (ts'.map V.ref)
  | _, _, _, .nil, .nil => .nil
  | _, _, _, .cons a b, .cons c d => .cons (deq_dk a c) (deq_dks b d)
def CV (K : PySem.W.Frag) (H : Hp) (t : Addr) (c : Cl) : Prop := ∃ (b : Addr) (ds : List Addr), H t = some (.tup [.int c.1.1, .str c.1.2, .ref b]) ∧ H b = some (.lst (ds.map V.ref)) ∧ Paired (dR K H) ds c.2
theorem deq_cv {K : PySem.W.Frag} {H : Hp} {t t' : Addr} {c : Cl} (h : CV K H t c) (h' : CV K H t' c) : DEq K H 3 (.ref t) (.ref t') := by
  obtain ⟨b, ds, h1, h2, h3⟩ := h
  obtain ⟨b', ds', h1', h2', h3'⟩ := h'
  exact .inr ⟨t, t', _, _, rfl, rfl, .inr ⟨SqT.of h1, SqT.of h1'⟩, .cons (DEq.self (.inl rfl) 2) (.cons (DEq.self (.inl rfl) 2) (.cons (.inr ⟨b, b', _, _, rfl, rfl, .inl ⟨SqL.of h2, SqL.of h2'⟩, deq_dks h3 h3'⟩) .nil))⟩
theorem deq_cvs {K : PySem.W.Frag} {H : Hp} : ∀ {ts ts' : List Addr} {cs : List Cl}, Paired (CV K H) ts cs → Paired (CV K H) ts' cs → Paired (DEq K H 3) (ts.map V.ref) (ts'.map V.ref)
  | _, _, _, .nil, .nil => .nil
  | _, _, _, .cons a b, .cons c d => .cons (deq_cv a c) (deq_cvs b d)
theorem CV.same {K : PySem.W.Frag} {H H' : Hp} {t : Addr} {c : Cl} (s : Same H H') (h : CV K H t c) : CV K H' t c := let ⟨b, ds, h1, h2, h3⟩ := h; ⟨b, ds, s _ _ h1, s _ _ h2, paired_imp (fun _ _ r => s.tup r) h3⟩
theorem CR.cv {K : PySem.W.Frag} {D : Addr} {H0 H : Hp} {t : Addr} {c : Cl} (s : Same H0 H) (h : CR K D H0 H t c) : CV K H t c := let ⟨b, ds, _, h1, h2, h3, _⟩ := h; ⟨b, ds, h1, h2, paired_imp (fun _ _ r => s.tup r) h3⟩
theorem DRl.cv {K : PySem.W.Frag} {D : Addr} {H : Hp} {t : Addr} {c : Cl} (h : DRl K D H t c) : CV K H t c := let ⟨b, ds, _, h1, h2, h3⟩ := h; ⟨b, ds, h1, h2, h3⟩
theorem deq_d3 {K : PySem.W.Frag} {H : Hp} {t : Addr} {z : D3} (h : d3R K H t z) : DEq K H 2 (.ref t) (.ref t) := by
  obtain ⟨b, h1, h2⟩ := h
  exact .inr ⟨t, t, _, _, rfl, rfl, .inr ⟨h1, h1⟩, .cons (DEq.self (.inl rfl) 1) (.cons (DEq.self (.inl rfl) 1) (.cons (deq_dk h2 h2) .nil))⟩
theorem deq_d3s {K : PySem.W.Frag} {H : Hp} : ∀ {ts : List Addr} {zs : List D3}, Paired (d3R K H) ts zs → Paired (DEq K H 2) (ts.map V.ref) (ts.map V.ref)
  | _, _, .nil => .nil
  | _, _, .cons a b => .cons (deq_d3 a) (deq_d3s b)
theorem paired_take {α β : Type} {R : α → β → Prop} : ∀ (n : Nat) {l : List α} {m : List β}, Paired R l m → Paired R (l.take n) (m.take n)
  | 0, _, _, _ => .nil
  | _ + 1, _, _, .nil => .nil
  | n + 1, _, _, .cons a b => .cons a (paired_take n b)
theorem boot_tupX : bootBuiltins "tuple" = some (.type "tuple") := by decide +kernel
theorem boot_lstX : bootBuiltins "list" = some (.type "list") := by decide +kernel
section
variable {P : Program} {w : World} {K : PySem.W.Frag} {mg : Str → Option Value} {base : Heap} {f : Addr} {fd : FuncData}
def spLaw (K : PySem.W.Frag) : Sp := fun vs H Q _ => ∃ (a : Addr) (ns : List Int), vs = [.ref a] ∧ SqL K H a (ns.map V.int) ∧ ns.length ≤ 63 ∧ ∀ H', Q (.bl true) H'
theorem scLaw : FnScope ["_law_script", "_law_deeds", "_law_handed", "_law_found", "_law_one"] ["_law_script"] (defScope sLaw) := ⟨rfl, rfl, rfl, by decide +kernel, rfl, by decide +kernel, by decide +kernel⟩
theorem ok_law (F : Fun K "law" "law" sLaw f fd) (T : Txt mg) (GC : CalleeD P w K mg base 1 "_law_cell_at" ["_law_script", "_law_k"] (spCell K)) (GF : CalleeD P w K mg base 1 "_law_free_deeds" ["_law_script", "_law_at", "_law_many", "_law_rules"] (spFree K)) (GD : CalleeD P w K mg base 1 "_law_due" ["_law_deeds"] (spDue K)) (GL : CalleeD P w K mg base 1 "clashes_of" ["deeds"] (spClash K)) : FnOk P w K mg base CX0 2 f fd ["_law_script"] (spLaw K) := by
  refine F.ok scLaw (fun vs H Q E h => ?_) (fun cdv A outer s H vs Q E hr h => ?_)
  · obtain ⟨a, ns, rfl, _⟩ := h; rfl
  · obtain ⟨a, ns, rfl, hS, hl, q⟩ := h
    have hu0 : (A.deeper (PyProof.Rows.envOfC ("law" : Str) (defScope sLaw) s.heap.objs.size f cdv)).units < cLine := Nat.lt_of_le_of_lt (by omega) hr.un
    have hu4 : (A.deeper (PyProof.Rows.envOfC ("law" : Str) (defScope sLaw) s.heap.objs.size f cdv)).units + (3 + 1) < cLine := Nat.lt_of_le_of_lt (by omega) hr.un
    have hu3 : (A.deeper (PyProof.Rows.envOfC ("law" : Str) (defScope sLaw) s.heap.objs.size f cdv)).units + (2 + 1) < cLine := Nat.lt_of_le_of_lt (by omega) hr.un
    refine ⟨_, pss_cons (ps_set (i := 1) scLaw.nd rfl (Or.inl rfl) (pe_fn GF hr rfl (pa_cons (pv 0) (pa_cons pe_int (pa_cons (pe_op op_add pe_int (pe_op op_mod (pe_fn GC hr rfl (pa_cons (pv 0) (pa_cons pe_int pa_nil))) pe_int)) (pa_cons pe_int pa_nil))))))
      (pss_cons (ps_set (i := 2) scLaw.nd rfl (Or.inl rfl) (pe_callTy call_list_of rfl T.lst boot_lstX (pa_cons (pv 1) pa_nil)))
      (pss_cons (ps_set (i := 3) scLaw.nd rfl (Or.inl rfl) (pe_fn GL hr rfl (pa_cons (pv 2) pa_nil)))
      (pss_cons (ps_if (PW.pt (pw_or (pt_not (pt_val (pe_callB call_isinstL rfl T.isi PyProof.Rows.boot_isinstance (pa_cons (pv 3) (pa_cons (pe_bltn (v := .ty "list") rfl T.lst boot_lstX rfl) pa_nil)))))
        (pw_or (pt_cmpR (op_ne_deep 3 hu4) (pv 3) (pe_fn GD hr rfl (pa_cons (pv 1) pa_nil)) (nomark _)) (pw_or1 (pt_cmpR (op_ne_deep 2 hu3) (pv 2) (pv 1) (nomark _)))))) (pss_one (ps_ret pe_bl)) pss_nil)
      (pss_cons (ps_for PassesOwn.never rfl (pi_list (pv 3)) (pg_name (i := 4) scLaw.nd rfl (Or.inl rfl))
        (pss_cons (ps_if (PW.pt (pw_or (pt_not (pt_val (pe_callB call_isinst rfl T.isi PyProof.Rows.boot_isinstance (pa_cons (pv 4) (pa_cons (pe_bltn (v := .ty "tuple") rfl T.tup boot_tupX rfl) pa_nil)))))
          (pw_or1 (pt_not (pt_val (pe_callB call_isinstL rfl T.isi PyProof.Rows.boot_isinstance (pa_cons (pe_ix ix_tup (pv 4) pe_int (fun _ _ => rfl)) (pa_cons (pe_bltn (v := .ty "list") rfl T.lst boot_lstX rfl) pa_nil)))))))) (pss_one (ps_ret pe_bl)) pss_nil)
        (pss_one (ps_expr (pe_bm PySem.F.plainAttrs_list PySem.F.slot_list_append PySem.F.type_list_append mt_append (pe_ix ix_tup (pv 4) pe_int (fun _ _ => rfl)) (pa_cons pe_str pa_nil))))))
      (pss_one (ps_ret (pe_and (pe_cmpR (op_eq_deepL 3 hu4) (pe_fn GL hr rfl (pa_cons (pv 2) pa_nil)) (pe_fn GD hr rfl (pa_cons (pv 1) pa_nil)) (nomark _)) (pe_one (pe_cmpR (op_eq_nil hu0) (pe_fn GL hr rfl (pa_cons (pe_slice sl_list (pv 1) po_none (po_some pe_int)) pa_nil)) (pe_lst pa_nil) (nomark _)))))))))), ?_⟩
    dsimp only [cxK1]
    refine ⟨_, rfl, _, rfl, a, ns, 0, rfl, hS, (by omega), fun n => ?_⟩
    obtain ⟨m, em, lm⟩ : ∃ m : Nat, (1 : Int) + n % 50 = (m : Int) ∧ m ≤ 50 := ⟨((1 : Int) + n % 50).toNat, by omega, by omega⟩
    refine ⟨_, _, rfl, rfl, (by decide), _, _, rfl, rfl, a, ns, m, congrArg (fun z => [V.ref a, V.int 1, V.int z, V.int 6]) em, hS, (by omega), lm, fun l1 ts zs H1 s1 f1 e1 p1 srt nd lz kz => ?_⟩
    refine ⟨_, rfl, l1, _, rfl, .inl (SqL.of e1), fun l2 hl2 => ?_⟩
    have k2 := same_laid hl2 (.lst (ts.map V.ref))
    have e2 : upd H1 l2 (.lst (ts.map V.ref)) l2 = some (.lst (ts.map V.ref)) := upd_same
    generalize upd H1 l2 (.lst (ts.map V.ref)) = H2 at k2 e2
    have p2 : Paired (d3R K H2) ts zs := paired_imp (fun _ _ h => d3R.same k2 h) p1
    have cd := clsh_due srt kz
    refine ⟨_, rfl, l2, ts, zs, rfl, SqL.of e2, p2, (by omega), fun zs' l3 us H3 pm3 srt3 s3 f3 e3 p3 => ?_⟩
    have ez := own_sorted srt nd pm3 srt3
    subst ez
    rw [cd] at p3
    refine ⟨_, rfl, l3, _, _, _, rfl, SqL.of e3, kit_self, _, rfl, ?_⟩
    refine iteF ?_
    have s13 := k2.trans s3
    have cv3 : Paired (CV K H3) us (dueL zs') := paired_imp (fun _ _ h => h.cv s3) p3
    refine ⟨_, rfl, _, rfl, l1, ts, zs', rfl, SqL.of (s13 _ _ e1), paired_imp (fun _ _ h => d3R.same s13 h) p1, srt, (by omega), fun l4 us4 H4 s4 e4 p4 => ?_⟩
    have s14 := s13.trans s4
    have s24 := s3.trans s4
    refine ⟨l3, l4, _, _, rfl, rfl, SqL.of (s4 _ _ e3), SqL.of e4, deq_cvs (paired_imp (fun _ _ h => h.same s4) cv3) (paired_imp (fun _ _ h => h.cv) p4), _, rfl, iteF ?_⟩
    refine ⟨_, rfl, _, rfl, l2, l1, _, _, rfl, rfl, SqL.of (s24 _ _ e2), SqL.of (s14 _ _ e1), deq_d3s (paired_imp (fun _ _ h => d3R.same s14 h) p1), _, rfl, iteF ?_⟩
    have lus : us.length ≤ 12 := by
      rw [Paired.length p3]
      exact clP_len zs' 12
    let Lo : Hp → Nat → Addr → Prop := fun H5 i t => ∃ (b : Addr) (x y : V) (xs : List V), b ≠ l3 ∧ H2 b = none ∧ H5 t = some (.tup [x, y, .ref b]) ∧ H5 b = some (.lst xs) ∧ xs.length ≤ 64 + i
    have lo0 : ∀ t ∈ us, Lo H4 0 t := fun t ht => by
      obtain ⟨c, hc, b, ds, h1, h2, h3, h4, h5⟩ := paired_mem p3 t ht
      refine ⟨b, _, _, _, h1, h5, s4 _ _ h2, s4 _ _ h3, ?_⟩
      rw [List.length_map, Paired.length h4]
      obtain ⟨p, _, e⟩ := List.mem_map.mp (List.mem_filter.mp (show c ∈ dueL zs' from hc)).1
      rw [← e]
      have := ofKey_len zs' p
      show (ofKey zs' p).length ≤ _
      omega
    refine ⟨_, rfl, l3, rfl, ⟨_, SqL.of (s4 _ _ e3)⟩, ?_⟩
    refine for_list (xs := us.map V.ref) (fun i σ H5 => ∃ y4, σ = [some (.ref a), some (.ref l1), some (.ref l2), some (.ref l3), y4] ∧ Same H2 H5 ∧ H5 l3 = some (.lst (us.map V.ref)) ∧ ∀ t ∈ us, Lo H5 i t) ⟨none, rfl, s24, s4 _ _ e3, lo0⟩ ?_ ?_ ?_
    · rintro i σ H5 _ ⟨y4, rfl, s5, e5, _⟩
      exact SqL.of e5
    · rintro i x σ H5 ex ⟨y4, rfl, s5, e5, lo⟩
      have li := (List.getElem?_eq_some_iff.mp ex).1
      rw [List.length_map] at li
      rw [List.getElem?_map] at ex
      obtain ⟨t, et, rfl⟩ := Option.map_eq_some_iff.mp ex
      obtain ⟨b, x, y, xs, h1, h2, h3, h4, h5⟩ := lo t (List.mem_of_getElem? et)
      have v : SqT K H5 t [x, y, .ref b] := SqT.of h3
      have at2 : atI [x, y, V.ref b] 2 = some (V.ref b) := atI_nat (j := 2) rfl
      refine ⟨_, rfl, _, _, _, _, rfl, .tup v, kit_self, _, rfl, iteF ?_⟩
      refine ⟨_, rfl, t, _, _, _, rfl, rfl, v, at2, b, _, _, _, rfl, SqL.of h4, kit_self, _, rfl, iteF ?_⟩
      refine ⟨_, rfl, t, _, _, _, rfl, rfl, v, at2, .inl ⟨rfl, _, SqL.of h4⟩, b, _, _, rfl, rfl, h4, fits' (by omega), ?_⟩
      refine ⟨_, rfl, upd_keep s5 h2, by rw [upd_ne (Ne.symm h1)]; exact e5, fun t' ht' => ?_⟩
      obtain ⟨b', x', y', xs', g1, g2, g3, g4, g5⟩ := lo t' ht'
      have nt : t' ≠ b := fun z => by rw [z, h4] at g3; cases g3
      by_cases c : b' = b
      · subst c
        refine ⟨b', x', y', xs ++ [V.str "more"], g1, g2, by rw [upd_ne nt]; exact g3, upd_same, ?_⟩
        rw [List.length_append, List.length_singleton]
        omega
      · exact ⟨b', x', y', xs', g1, g2, by rw [upd_ne nt]; exact g3, by rw [upd_ne c]; exact g4, by omega⟩
    · rintro σ H5 ⟨y4, rfl, s5, e5, _⟩
      have s15 := k2.trans s5
      have p5 : Paired (d3R K H5) ts zs' := paired_imp (fun _ _ h => d3R.same s15 h) p1
      refine ⟨_, rfl, l2, ts, zs', rfl, SqL.of (s5 _ _ e2), p5, (by omega), fun zs6 l6 us6 H6 pm6 srt6 s6 f6 e6 p6 => ?_⟩
      have ez6 := own_sorted srt nd pm6 srt6
      subst ez6
      rw [cd] at p6
      have s16 := s15.trans s6
      refine ⟨_, rfl, l1, ts, _, rfl, SqL.of (s16 _ _ e1), paired_imp (fun _ _ h => d3R.same s16 h) p1, srt, (by omega), fun l7 us7 H7 s7 e7 p7 => ?_⟩
      have s17 := s16.trans s7
      refine ⟨l6, l7, _, _, rfl, rfl, SqL.of (s7 _ _ e6), SqL.of e7, deq_cvs (paired_imp (fun _ _ h => (CR.cv s6 h).same s7) p6) (paired_imp (fun _ _ h => h.cv) p7), _, rfl, iteT ?_⟩
      refine ⟨_, rfl, _, rfl, l1, _, rfl, SqL.of (s17 _ _ e1), fun l8 hl8 => ?_⟩
      have cut : cutV (ts.map V.ref) none (some 1) = (ts.take 1).map V.ref := by
        unfold cutV
        rw [show HT.sIx (ts.map V.ref).length 0 none = 0 from rfl, show (1 : Int) = ((1 : Nat) : Int) from rfl, HT.sIx_nat, List.drop_zero, Nat.sub_zero, List.map_take, ← List.take_eq_take_min]
      rw [cut]
      have k8 := same_laid hl8 (.lst ((ts.take 1).map V.ref))
      have e8 : upd H7 l8 (.lst ((ts.take 1).map V.ref)) l8 = some (.lst ((ts.take 1).map V.ref)) := upd_same
      generalize upd H7 l8 (.lst ((ts.take 1).map V.ref)) = H8 at k8 e8
      have s18 := s17.trans k8
      refine ⟨l8, ts.take 1, _, rfl, SqL.of e8, paired_take 1 (paired_imp (fun _ _ h => d3R.same s18 h) p1), (by rw [List.length_take]; omega), fun zs9 l9 us9 H9 pm9 srt9 s9 f9 e9 p9 => ?_⟩
      have l9' : zs9.length ≤ 1 := by
        rw [pm9.length_eq]
        refine Nat.le_trans (dedK_len _ _) ?_
        rw [List.length_take]
        omega
      rw [clsh_one zs9 l9'] at p9
      have eu : us9 = [] := List.length_eq_zero_iff.mp (Paired.length p9)
      subst eu
      refine ⟨(by show 0 ≤ sizeLine; decide), fun l10 hl10 => ?_⟩
      exact ⟨l9, l10, [], rfl, rfl, SqL.of ((same_laid hl10 _) _ _ e9), SqL.of upd_same, q _⟩
end
end K11
namespace L2
open PySem
def HasD (K : PySem.W.Frag) (x : Str) (st : Stmt) : Prop := ∃ (g : Addr) (oc : Value) (od an : Option Addr) (sl : Array (Option Value)) (kV dc pm cd ct : Value), PySem.W.nsIn K mainGlobals x = some (some (.ref g)) ∧
  K.lookup g = some ⟨oc, od, .func (PySem.W.fnOf x x (defArgs st) (defBody st) (defScope st) .none kV dc pm an cd ct), sl⟩ ∧ PySem.W.codeIn K cd x = true ∧ PySem.W.keepIn K (.ref g) = true
theorem HasD.get {K : PySem.W.Frag} {h : Heap} {mg : Str → Option Value} {x : Str} {st : Stmt} (X : K.In h) (G : h.Ns mainGlobals mg) (H : HasD K x st) : ∃ g gd, Fun K x x st g gd ∧ mg x = some (.ref g) := by
  obtain ⟨g, oc, od, an, sl, kV, dc, pm, cd, ct, a, l, c, k⟩ := H
  exact ⟨g, _, fun_mk (st := st) l c k, PySem.W.mg_of X G a⟩
theorem HasD.c {K : PySem.W.Frag} {h : Heap} {mg : Str → Option Value} {x : Str} {st : Stmt} {P : Program} {w : World} {base : Heap} {k : Nat} {ps : List Str} {sp : Sp} (H : HasD K x st) (X : K.In h) (G : h.Ns mainGlobals mg)
    (b : ∀ (kV doc pm : Value) (an : Option Addr) (cdv ct : Value) (us : List Value), us.length = ps.length → bindArgs (PySem.W.fnOf x x (defArgs st) (defBody st) (defScope st) .none kV doc pm an cdv ct) ⟨us, []⟩ = pure (ps.zip us))
    (o : ∀ {f : Addr} {fd : FuncData}, Fun K x x st f fd → mg x = some (.ref f) → Binds K fd ps [] → FnOk P w K mg base CX0 k f fd ps sp) : CalleeD P w K mg base k x ps sp := by
  obtain ⟨f, fd, F, m⟩ := H.get X G
  have B := F.binds b
  exact ⟨f, fd, o F m B, B, F.kp, m⟩
theorem hD {K : PySem.W.Frag} {x : Str} {st : Stmt} (g c : Addr) (pm : Value) (h : (PySem.W.nsIn K mainGlobals x, K.lookup g, PySem.W.codeIn K (.ref c) x, PySem.W.keepIn K (.ref g)) = (some (some (.ref g)), some ⟨.type "function", none, .func (PySem.W.fnOf x x (defArgs st) (defBody st) (defScope st) .none .none .none pm none (.ref c) .none), #[]⟩, true, true)) : HasD K x st := by
  simp only [Prod.mk.injEq] at h
  exact ⟨g, _, _, _, _, _, _, _, _, _, h.1, h.2.1, h.2.2.1, h.2.2.2⟩
end L2
namespace K11
open PySem L2 ST
structure Top (K : PySem.W.Frag) : Prop where
  h0 : HasD K "clashes_of" sClash
  h1 : HasD K "_law_cell_at" sCell
  h2 : HasD K "_law_free_deeds" sFree
  h3 : HasD K "_law_due" sDue
  hlaw : HasD K "law" sLaw
  zlen : PySem.W.nsIn K mainGlobals "len" = some none
  zrange : PySem.W.nsIn K mainGlobals "range" = some none
  zisinstance : PySem.W.nsIn K mainGlobals "isinstance" = some none
  ztuple : PySem.W.nsIn K mainGlobals "tuple" = some none
  zlist : PySem.W.nsIn K mainGlobals "list" = some none
  zset : PySem.W.nsIn K mainGlobals "set" = some none
  zsorted : PySem.W.nsIn K mainGlobals "sorted" = some none
theorem all_mk {l : PySem.W.OpenLaw} {w : World} {K : PySem.W.Frag} {h : Heap} {mg : Str → Option Value} {fa : Addr} (X : K.In h) (G : h.Ns mainGlobals mg) (hfa : mg "law" = some (.ref fa)) (tp : Top K) :
    ∃ fd : FuncData, (∀ (s : Shared) (v : Value), BindsTo s fd ⟨[v], []⟩ [("_law_script", v)]) ∧ ∀ base : Heap, K.In base → base.Ns mainGlobals mg → FnOk l.prog w K mg base CX0 2 fa fd ["_law_script"] (spLaw K) := by
  have T : Txt mg := ⟨PySem.W.mg_none_of X G tp.zlen, PySem.W.mg_none_of X G tp.zrange, PySem.W.mg_none_of X G tp.zisinstance, PySem.W.mg_none_of X G tp.ztuple, PySem.W.mg_none_of X G tp.zlist, PySem.W.mg_none_of X G tp.zset, PySem.W.mg_none_of X G tp.zsorted⟩
  obtain ⟨f9, d9, F9, m9⟩ := tp.hlaw.get X G
  have e := hfa.symm.trans m9
  cases e
  obtain ⟨oc, od, kV, doc, pm, an, cdv, ct, osl, eL, lk, hcd⟩ := F9.ex
  refine ⟨d9, fun s v => ?_, fun base _ _ => ?_⟩
  · rw [eL]; exact .of_eq rfl
  have c0 := tp.h0.c (P := l.prog) (w := w) (base := base) X G (fun _ _ _ _ _ _ us hl => match us, hl with | [_], _ => rfl) fun F m B => ok_clash F T
  have c1 := tp.h1.c (P := l.prog) (w := w) (base := base) X G (fun _ _ _ _ _ _ us hl => match us, hl with | [_, _], _ => rfl) fun F m B => ok_cell F T
  have c2 := tp.h2.c (P := l.prog) (w := w) (base := base) X G (fun _ _ _ _ _ _ us hl => match us, hl with | [_, _, _, _], _ => rfl) fun F m B => ok_free F T
  have c3 := tp.h3.c (P := l.prog) (w := w) (base := base) X G (fun _ _ _ _ _ _ us hl => match us, hl with | [_], _ => rfl) fun F m B => ok_due F T
  exact ok_law F9 T (c1.mono (by decide)) (c2.mono (by decide)) (c3.mono (by decide)) (c0.mono (by decide))
theorem walk {l : PySem.W.OpenLaw} {q : Program} {loose : List Str} {XP : (Str → Option Value) → Heap → Prop} {YP : World → Heap → Prop} {d : DefRec} {K : Params → PySem.W.Frag} (hn : l.most = some 63) (hdf : d.params.defaults = [])
    (hY : ∀ (w : World) (h : Heap), YP w h → (K w.params).In h)
    (F : ∀ (w : World) (mg : Str → Option Value) (fa : Addr) (h : Heap), (K w.params).In h → h.Ns mainGlobals mg → mg d.name = some (.ref fa) →
      ∃ fd : FuncData, (∀ (s : Shared) (u : Value), BindsTo s fd ⟨[u], []⟩ [("_law_script", u)]) ∧ ∀ base : Heap, (K w.params).In base → base.Ns mainGlobals mg → FnOk l.prog w (K w.params) mg base CX0 2 fa fd ["_law_script"] (spLaw (K w.params))) :
    PySem.W.WalkO q loose XP YP l.row.toRowW d [] (fun f vs => PySem.call f vs) :=
  L2.walk_of (n := 63) (k := 2) (x := "_law_script") (CX := fun _ => CX0) (sp := fun w => spLaw (K w.params)) hn (by decide) hdf ⟨rfl, by decide, by decide, rfl⟩ hY F (fun _ _ a ns hl _ hS => ⟨a, ns, rfl, hS, hl, fun _ => rfl⟩) fun _ _ _ _ _ z => z
end K11
namespace HD
open PySem PySem.W
def runT (st : SharedT → Thread → Option (SharedT × Thread)) (ok : Thread → Bool) : Nat → SharedT → Thread → Option SharedT
  | 0, _, _ => none
  | n + 1, s, t => match through t with
    | true => some s
    | false => match ok t with
      | false => none
      | true => match st s t with
        | some (s', t') => runT st ok n s' t'
        | none => none
theorem runT_of {tb : String → Option Builtin} {p : Program} {w : World} {n₀ : Nat} {ann : Option Value} : ∀ {n : Nat} {s s' : SharedT} {t : Thread}, runT (stepT (denote tb) p w) (stepOk n₀ ann) n s t = some s' → topRun tb p w n₀ ann n s.abs t = some s'.abs
  | 0, _, _, _, h => by cases h
  | n + 1, s, s', t, h => by
    unfold runT at h
    unfold topRun
    cases he : through t with
    | true => rw [he] at h; cases h; rfl
    | false =>
      rw [he] at h
      cases hk : stepOk n₀ ann t with
      | false => rw [hk] at h; cases h
      | true =>
        rw [hk] at h
        cases hs : stepT (denote tb) p w s t with
        | none => rw [hs] at h; cases h
        | some r => obtain ⟨s₂, t₂⟩ := r; rw [hs] at h; rw [stepT_spec hs]; exact runT_of h
def ofL : List Obj → Nat → BT → BT
  | [], _, t => t
  | o :: r, i, t => ofL r (i + 1) (t.ins i o)
noncomputable def bootT (P : Params) : BT := ofL (boot_heap P).objs.toList 0 .nil
theorem bootT_abs (P : Params) : absHeap (bootT P) 11 {} = boot_heap P := by kernel_rfl
def forceL {α β : Type} : List α → (List α → β) → β
  | [], k => k []
  | x :: r, k => forceL r fun ys => k (x :: ys)
def forceO {β : Type} : Obj → (Obj → β) → β
  | ⟨c, d, t, s⟩, k => k ⟨c, d, t, s⟩
def forceLO {β : Type} : List Obj → (List Obj → β) → β
  | [], k => k []
  | x :: r, k => forceO x fun y => forceLO r fun ys => k (y :: ys)
theorem forceLO_eq {β : Type} : ∀ (l : List Obj) (k : List Obj → β), forceLO l k = k l
  | [], _ => rfl
  | ⟨c, d, t, s⟩ :: r, k => by
    show forceLO r (fun ys => k (⟨c, d, t, s⟩ :: ys)) = _
    rw [forceLO_eq r]
def looks (p q : Program) (loose : List Str) (Xt : Shared → Bool) {α : Type} (Yf : Shared → α) (g0 : Bool) (h₀ : Heap) (s : Shared) :=
  ((staticsOk (importedModules p.main.body) h₀ s.heap && namesBound p s.heap && gensDone s && laidKept h₀ s.heap), openSeen q loose (importedModules p.main.body) Xt g0 s, Yf s)
def seenT {β : Type} (f : Shared → β) (s : SharedT) : β := forceLO (s.tree.list s.n) fun l => f ⟨⟨l.toArray, s.life⟩, s.gens, s.drawn, s.toks, s.os⟩
theorem seenT_eq {β : Type} (f : Shared → β) (s : SharedT) : seenT f s = f s.abs := forceLO_eq _ _
theorem leftT {p q : Program} {loose : List Str} {Xt : Shared → Bool} {α : Type} {Yf : Shared → α} {Ya : World → α} {N : Nat} {g0 : Bool} {ann : Option Value} {M : Nat}
    (open_ : ∀ w : World, (fencedOpening treeTable p w N).map (fun s => (s.heap, s.gens, s.drawn, s.toks)) = some (boot_heap w.params, Array.mk [], boot_drawn, boot_toks))
    (size : ∀ w : World, ((boot_heap w.params).isNs mainGlobals && (Array.mk [] : Array GenState).size == 0, (boot_heap w.params).objs.size, (boot_heap w.params).nsMap mainGlobals "__annotations__") = (true, 11, ann))
    (run : ∀ (w : World) (os : OsState), (runT (stepT (denote treeTable) p w) (stepOk 11 ann) M ⟨bootT w.params, 11, {}, Array.mk [], boot_drawn, boot_toks, os⟩ (topStub p)).map (seenT (looks p q loose Xt Yf g0 (boot_heap w.params))) = some (true, openGood q loose, Ya w))
    (le : Nat.ble M N = true) : LeftO p q loose Xt Yf Ya N g0 := fun w => by
  obtain ⟨⟨h, gs, d, k, os⟩, e, e'⟩ := Option.map_eq_some_iff.mp (open_ w)
  obtain ⟨rfl, rfl, rfl, rfl⟩ : h = boot_heap w.params ∧ gs = Array.mk [] ∧ d = boot_drawn ∧ k = boot_toks := by simpa using e'
  obtain ⟨z1, z2, z3⟩ : _ ∧ _ ∧ _ := by simpa only [Prod.mk.injEq] using size w
  obtain ⟨s', r0, l0⟩ := Option.map_eq_some_iff.mp (run w os)
  rw [seenT_eq] at l0
  obtain ⟨l1, l2, l3⟩ : _ ∧ _ ∧ _ := by simpa only [looks, Prod.mk.injEq] using l0
  have r := runT_of r0
  have ea : SharedT.abs ⟨bootT w.params, 11, {}, Array.mk [], boot_drawn, boot_toks, os⟩ = ⟨boot_heap w.params, Array.mk [], boot_drawn, boot_toks, os⟩ := by
    unfold SharedT.abs
    rw [bootT_abs]
  rw [ea] at r
  have r := topRun_mono (N - M) _ _ _ _ r
  rw [show M + (N - M) = N by have := Nat.le_of_ble_eq_true le; omega] at r
  have t : topFrom treeTable p w N ⟨boot_heap w.params, Array.mk [], boot_drawn, boot_toks, os⟩ = some s'.abs := by
    unfold topFrom
    dsimp only
    rw [z1, z2, z3, r]
    show (match staticsOk (importedModules p.main.body) (boot_heap w.params) s'.abs.heap && namesBound p s'.abs.heap && gensDone s'.abs && laidKept (boot_heap w.params) s'.abs.heap with | true => _ | false => _) = _
    rw [l1]
  unfold openEnds
  rw [e]
  show (topFrom treeTable p w N _).map _ = _
  rw [t]
  exact congrArg some (Prod.ext l2 l3)
end HD
set_option maxHeartbeats 0
namespace HD
open PySem PySem.W L2
def dE (P : Params) (x : Str) (t : Tok) (v : Value) : DictEntry := ⟨PyData.keyHash P x, .str x t, v⟩
def top (p : Program) (i : Nat) : Stmt := p.main.body.getD i (.Pass ⟨0, 0, 0, 0⟩)
def posOf (s : Stmt) : Pos := match s with
  | .FunctionDef _ _ _ _ _ _ _ _ _ p => p
  | _ => ⟨0, 0, 0, 0⟩
noncomputable def K' (p : Program) (P : Params) : Frag := [
  (2, ⟨.none, none, .dict #[] 0, #[]⟩),
  (3, ⟨.type "dict", none, .dict #[dE P "__name__" 165 (.str "law_wright_k46_clashes" 195), dE P "__doc__" 166 (.none), dE P "__package__" 167 (.none), dE P "__loader__" 168 (.builtin "__main__.__loader__#opaque"), dE P "__spec__" 169 (.none), dE P "__annotations__" 170 (.ref 6), dE P "__builtins__" 171 (.ref 4), dE P "__file__" 173 (.str "/claim/cut.py" 172), dE P "__cached__" 174 (.none), dE P "clashes_of" 194 (.ref 19), dE P "_law_cell_at" 204 (.ref 26), dE P "_law_free_deeds" 219 (.ref 33), dE P "_law_due" 225 (.ref 38), dE P "law" 236 (.ref 45)] 14, #[]⟩),
  (6, ⟨.type "dict", none, .dict #[] 0, #[]⟩),
  (18, ⟨.type "code", none, .fields #[.str "clashes_of" 189, .str "clashes_of" 190, .str "/claim/cut.py" 191, .int (2) 0, .int (1) 0, .int (0) 0, .int (0) 0, .int (3) 0, .ref 15, .bool true, .int (181) 0, .ref 16, .none, .none, .none, .ref 17, .int (192) 0, .int (2) 0, .str "/claim/cut.py" 193], #[]⟩),
  (19, ⟨.type "function", none, .func (fnOf "clashes_of" "clashes_of" (defArgs (top p 1)) (defBody (top p 1)) (defScope (top p 1)) (.none) (.none) (.none) (.str "wright.deeds" 187) (none) (.ref 18) (.none)), #[]⟩),
  (25, ⟨.type "code", none, .fields #[.str "_law_cell_at" 197, .str "_law_cell_at" 198, .str "/claim/cut.py" 199, .int (8) 0, .int (2) 0, .int (0) 0, .int (0) 0, .int (3) 0, .ref 20, .bool true, .int (181) 0, .ref 21, .none, .ref 22, .ref 23, .ref 24, .int (202) 0, .int (8) 0, .str "/claim/cut.py" 203], #[]⟩),
  (26, ⟨.type "function", none, .func (fnOf "_law_cell_at" "_law_cell_at" (defArgs (top p 3)) (defBody (top p 3)) (defScope (top p 3)) (.none) (.none) (.none) (.str "law_wright_k46_clashes" 195) (none) (.ref 25) (.none)), #[]⟩),
  (32, ⟨.type "code", none, .fields #[.str "_law_free_deeds" 205, .str "_law_free_deeds" 206, .str "/claim/cut.py" 207, .int (12) 0, .int (4) 0, .int (0) 0, .int (0) 0, .int (3) 0, .ref 27, .bool true, .int (181) 0, .ref 28, .none, .ref 29, .ref 30, .ref 31, .int (217) 0, .int (12) 0, .str "/claim/cut.py" 218], #[]⟩),
  (33, ⟨.type "function", none, .func (fnOf "_law_free_deeds" "_law_free_deeds" (defArgs (top p 4)) (defBody (top p 4)) (defScope (top p 4)) (.none) (.none) (.none) (.str "law_wright_k46_clashes" 195) (none) (.ref 32) (.none)), #[]⟩),
  (37, ⟨.type "code", none, .fields #[.str "_law_due" 220, .str "_law_due" 221, .str "/claim/cut.py" 222, .int (28) 0, .int (1) 0, .int (0) 0, .int (0) 0, .int (3) 0, .ref 34, .bool true, .int (181) 0, .ref 35, .none, .none, .none, .ref 36, .int (223) 0, .int (28) 0, .str "/claim/cut.py" 224], #[]⟩),
  (38, ⟨.type "function", none, .func (fnOf "_law_due" "_law_due" (defArgs (top p 5)) (defBody (top p 5)) (defScope (top p 5)) (.none) (.none) (.none) (.str "law_wright_k46_clashes" 195) (none) (.ref 37) (.none)), #[]⟩),
  (44, ⟨.type "code", none, .fields #[.str "law" 226, .str "law" 227, .str "/claim/cut.py" 228, .int (36) 0, .int (1) 0, .int (0) 0, .int (0) 0, .int (3) 0, .ref 39, .bool true, .int (181) 0, .ref 40, .none, .ref 41, .ref 42, .ref 43, .int (234) 0, .int (36) 0, .str "/claim/cut.py" 235], #[]⟩),
  (45, ⟨.type "function", none, .func (fnOf "law" "law" (defArgs (top p 6)) (defBody (top p 6)) (defScope (top p 6)) (.none) (.none) (.none) (.str "law_wright_k46_clashes" 195) (none) (.ref 44) (.none)), #[]⟩)]
def as : List Addr := [2, 3, 6, 18, 19, 25, 26, 32, 33, 37, 38, 44, 45]
def q' (p : Program) : Program := view p [1, 3, 4, 5, 6]
abbrev loose : List Str := []
abbrev steps : Nat := 193
abbrev bound : Nat := 1780
abbrev law : OpenLaw := PySem.Challenge.rw_wright_k46_clashes
noncomputable abbrev K (P : Params) : Frag := K' PySem.Challenge.pw_wright_k46_clashes P
theorem as_eq (P : Params) : as = (K P).map (·.1) := by kernel_rfl
noncomputable abbrev hook : Hook := kHook K as as_eq
theorem said : law.wellSaid = true := by kernel_rfl
theorem pre (h : law.row.wellSaid = true → law.row.Holds) : law.Holds := holds_law said h
abbrev Xt : Shared → Bool := fun s => xlAt (q' PySem.Challenge.pw_wright_k46_clashes) [] s && recOk (RowW.records (OpenRow.toRowW (OpenLaw.row PySem.Challenge.rw_wright_k46_clashes))) s
theorem run (w : World) (os : OsState) : (runT (stepT (denote treeTable) PySem.Challenge.pw_wright_k46_clashes w) (stepOk 11 (some (.ref 6))) steps ⟨bootT w.params, 11, {}, Array.mk [], boot_drawn, boot_toks, os⟩ (topStub PySem.Challenge.pw_wright_k46_clashes)).map
    (seenT (looks PySem.Challenge.pw_wright_k46_clashes (q' PySem.Challenge.pw_wright_k46_clashes) loose Xt (Hook.obs hook) true (boot_heap w.params))) = some (true, openGood (q' PySem.Challenge.pw_wright_k46_clashes) loose, Hook.val hook w) := by
  rw [PySem.W.Fast.te10156331382660048174, PySem.W.Fast.te11892475500146522536, PySem.W.Fast.te14364793385576792824, PySem.W.Fast.te6613529449190102663]
  kernel_rfl
theorem size (w : World) : ((boot_heap w.params).isNs mainGlobals && (Array.mk [] : Array GenState).size == 0, (boot_heap w.params).objs.size, (boot_heap w.params).nsMap mainGlobals "__annotations__") = (true, 11, some (.ref 6)) := by kernel_rfl
theorem open_ : ∀ w : World, (fencedOpening treeTable PySem.Challenge.pw_wright_k46_clashes w bound).map (fun s => (s.heap, s.gens, s.drawn, s.toks)) = some (boot_heap w.params, Array.mk [], boot_drawn, boot_toks) :=
  boot_open (by kernel_rfl) (by decide +kernel) (fun s => by kernel_rfl)
theorem left : LeftO (OpenRow.toRowW law.row).prog (q' PySem.Challenge.pw_wright_k46_clashes) loose Xt (Hook.obs hook) (Hook.val hook) bound := leftT open_ size run (by decide +kernel)
def lawRec : DefRec := { name := "law", params := defArgs (top PySem.Challenge.pw_wright_k46_clashes 6), body := defBody (top PySem.Challenge.pw_wright_k46_clashes 6), scope := defScope (top PySem.Challenge.pw_wright_k46_clashes 6), pos := posOf (top PySem.Challenge.pw_wright_k46_clashes 6) }
theorem ok1 : defOf (q' PySem.Challenge.pw_wright_k46_clashes) law.row.name = some (lawRec, []) := by kernel_rfl
theorem ok2 : law.row.prog.theDef law.row.name = some (lawRec.params, lawRec.body, lawRec.scope) := by kernel_rfl
theorem ok3 : kwWritten? lawRec.params.kwonlyargs lawRec.params.kw_defaults = some [] := by kernel_rfl
theorem ok4 : (chainsOk (q' PySem.Challenge.pw_wright_k46_clashes) && opensWell law.row.prog && (frees law.row.toRowW && law.row.within.isEmpty)) = true := by kernel_rfl
theorem ok5 : lawRec.params.defaults = [] := by kernel_rfl
theorem hold (h : WalkO (q' PySem.Challenge.pw_wright_k46_clashes) loose (XL (q' PySem.Challenge.pw_wright_k46_clashes) []) (Hook.says hook) law.row.toRowW lawRec [] fun f vs => PySem.call f vs) (hw : law.row.toRowW.promised) : law.Holds :=
  pre fun said => holds_open (q := q' PySem.Challenge.pw_wright_k46_clashes) (loose := loose) (Xt := Xt) (XP := XL (q' PySem.Challenge.pw_wright_k46_clashes) []) (Yf := Hook.obs hook) (Ya := Hook.val hook) (YP := Hook.says hook) (N := bound) left (Hook.of hook) (Hook.keeps hook) (fun s e => xl_of s (Bool.and_eq_true_iff.mp e).1) XL.keeps ok1 ok2 ok3 (fun s e => recFacts_of (Bool.and_eq_true_iff.mp e).2) rfl said ok4 ⟨rfl, rfl, rfl, rfl, rfl, by decide +kernel⟩ hw h
end HD
namespace HD
open PySem PySem.W
theorem tops (P : Params) : K11.Top (K P) := ⟨⟨19, .type "function", none, none, #[], .none, .none, .str "wright.deeds" 187, .ref 18, .none, by kernel_rfl, by kernel_rfl, by kernel_rfl, by kernel_rfl⟩,
  ⟨26, .type "function", none, none, #[], .none, .none, .str "law_wright_k46_clashes" 195, .ref 25, .none, by kernel_rfl, by kernel_rfl, by kernel_rfl, by kernel_rfl⟩,
  ⟨33, .type "function", none, none, #[], .none, .none, .str "law_wright_k46_clashes" 195, .ref 32, .none, by kernel_rfl, by kernel_rfl, by kernel_rfl, by kernel_rfl⟩,
  ⟨38, .type "function", none, none, #[], .none, .none, .str "law_wright_k46_clashes" 195, .ref 37, .none, by kernel_rfl, by kernel_rfl, by kernel_rfl, by kernel_rfl⟩,
  ⟨45, .type "function", none, none, #[], .none, .none, .str "law_wright_k46_clashes" 195, .ref 44, .none, by kernel_rfl, by kernel_rfl, by kernel_rfl, by kernel_rfl⟩,
  by kernel_rfl,
  by kernel_rfl,
  by kernel_rfl,
  by kernel_rfl,
  by kernel_rfl,
  by kernel_rfl,
  by kernel_rfl⟩
end HD
theorem PySem.Challenge.cw_wright_k46_clashes_holds : PySem.Challenge.rw_wright_k46_clashes.Holds := by
  refine HD.hold ?_ ?hw
  case hw => w_witness2
  refine K11.walk (l := PySem.Challenge.rw_wright_k46_clashes) (K := HD.K) rfl HD.ok5 (fun w h Y => PySem.W.kIn_of Y) ?F
  intro w mg fa h KX G hmg
  exact K11.all_mk KX G hmg (HD.tops w.params)
