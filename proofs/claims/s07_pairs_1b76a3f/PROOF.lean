import PyProof.Rows.All
import Wide.All
import OpenK.AllK
import Wide.FinOn
import PyProof.EqAt
import PyProof.EqKinds
import PyProof.TupleCall
import Open.SpecLaws
import KE.OsGo
import HandS.ForSpec
import HandS.Comp
import HandS.IsInst
import HandS.SetFor
import HandS.Text
import PySem.Challenge.RW_majorityrows_s07_pairs
set_option Elab.async false
set_option maxRecDepth 100000
set_option maxHeartbeats 4000000
namespace Maj
/-! the mathematics -/
/-- what rules_allowed answers for an m of 1 to 5 -/
def rulesB (m : Nat) (ns : List Nat) : Bool := !ns.isEmpty && ns.all fun r => decide (r < 2 ^ m) && decide (ns.count r ≤ 1)
def judgesB (ok v : List Nat) : Bool := decide (1 ≤ v.length) && decide (v.length ≤ 15) && v.all ok.contains
theorem distinct_iff : ∀ l : List Nat, Kzi1.distinct l = true ↔ ∀ r ∈ l, l.count r ≤ 1
  | [] => by simp [Kzi1.distinct]
  | x :: l => by
    have ih := distinct_iff l
    simp only [Kzi1.distinct, Bool.and_eq_true, Bool.not_eq_true', List.contains_eq_mem, decide_eq_false_iff_not, ih]
    constructor
    · rintro ⟨h1, h2⟩ r hr
      rcases List.mem_cons.mp hr with e | hm
      · subst e
        rw [List.count_cons_self, List.count_eq_zero.mpr h1]
        omega
      · have hne : x ≠ r := fun e => h1 (e ▸ hm)
        rw [List.count_cons_of_ne hne]
        exact h2 r hm
    · intro h
      have hx : x ∉ l := fun hm => by
        have q := h x (List.mem_cons_self ..)
        rw [List.count_cons_self] at q
        have q2 := List.count_pos_iff.mpr hm
        omega
      refine ⟨hx, fun r hr => ?_⟩
      have q := h r (List.mem_cons_of_mem _ hr)
      have hne : x ≠ r := fun e => hx (e ▸ hr)
      rw [List.count_cons_of_ne hne] at q
      exact q
theorem okRules_eq (m : Nat) (ns : List Nat) : Kzi1.okRules m ns = (decide (1 ≤ m) && decide (m ≤ 5) && rulesB m ns) := by
  rw [Bool.eq_iff_iff]
  simp only [Kzi1.okRules, rulesB, Bool.and_eq_true, distinct_iff, List.all_eq_true, decide_eq_true_eq]
  constructor
  · rintro ⟨⟨⟨h1, h2⟩, h3⟩, h4⟩
    exact ⟨h1, h2, fun r hr => ⟨h3 r hr, h4 r hr⟩⟩
  · rintro ⟨h1, h2, h3⟩
    exact ⟨⟨⟨h1, h2⟩, fun r hr => (h3 r hr).1⟩, fun r hr => (h3 r hr).2⟩
theorem okVotes_eq (ok v : List Nat) : Kzi1.okVotes ok v = judgesB ok v := rfl
def allowedB (m : Nat) (ok v : List Nat) : Bool := (decide (1 ≤ m) && decide (m ≤ 5)) && (rulesB m ok && judgesB ok v)
theorem good_eq (m : Nat) (ok v : List Nat) : Kzi1.good m ok v = allowedB m ok v := by
  unfold Kzi1.good allowedB
  rw [okRules_eq, okVotes_eq, Bool.and_assoc]
theorem allowed_m {m : Nat} {ok v : List Nat} (h : allowedB m ok v = true) : 1 ≤ m ∧ m ≤ 5 := by
  unfold allowedB at h
  simp only [Bool.and_eq_true, decide_eq_true_eq] at h
  exact h.1
theorem allowed_v {m : Nat} {ok v : List Nat} (h : allowedB m ok v = true) : 1 ≤ v.length ∧ v.length ≤ 15 := by
  unfold allowedB judgesB at h
  simp only [Bool.and_eq_true, decide_eq_true_eq] at h
  exact h.2.2.1
theorem and_pow (r q : Nat) : (r &&& 2 ^ q != 0) = Kzi1.bit r q := by
  have e : r &&& 2 ^ q = if r.testBit q = true then 2 ^ q else 0 := by
    apply Nat.eq_of_testBit_eq
    intro i
    rw [Nat.testBit_and, Nat.testBit_two_pow]
    by_cases hi : q = i
    · subst hi
      by_cases hb : r.testBit q = true
      · simp [hb]
      · simp [hb]
    · by_cases hb : r.testBit q = true
      · simp [hb, hi]
      · simp [hb, hi]
  have h2 : 0 < 2 ^ q := Nat.two_pow_pos q
  have e2 : r.testBit q = Kzi1.bit r q := by
    unfold Kzi1.bit
    rw [Nat.testBit_eq_decide_div_mod_eq]
    by_cases h : r / 2 ^ q % 2 = 1 <;> simp [h]
  rw [e, e2]
  cases Kzi1.bit r q with
  | true => simp
  | false => simp
theorem sum_app (l : List Nat) (x : Nat) : Kzi1.sum (l ++ [x]) = Kzi1.sum l + x := by
  unfold Kzi1.sum
  rw [List.foldl_append]
  rfl
theorem row_succ (i : Nat) (p : Nat → Bool) : Kzi1.row (i + 1) p = Kzi1.row i p + (if p i = true then 2 ^ i else 0) := by
  unfold Kzi1.row
  rw [List.range_succ, List.map_append, List.map_singleton, sum_app]
theorem take_more {α : Type} : ∀ {l : List α} {i : Nat} {x : α}, l[i]? = some x → l.take (i + 1) = l.take i ++ [x]
  | [], i, x, h => by simp at h
  | a :: l, 0, x, h => by
    have e : a = x := Option.some.inj h
    subst e
    rfl
  | a :: l, i + 1, x, h => by
    have ih := take_more (l := l) (i := i) (x := x) h
    show a :: l.take (i + 1) = a :: l.take i ++ [x]
    rw [ih]
    rfl
theorem all_take {p : Nat → Bool} {l : List Nat} {i : Nat} {x : Nat} (h : l[i]? = some x) : (l.take (i + 1)).all p = ((l.take i).all p && p x) := by
  rw [take_more h, List.all_append]
  simp
theorem not_all {p : Nat → Bool} {l : List Nat} {i x : Nat} (h : l[i]? = some x) (hp : p x = false) : l.all p = false := by
  have hm : x ∈ l := List.mem_of_getElem? h
  rw [← Bool.not_eq_true, List.all_eq_true]
  intro q
  rw [q x hm] at hp
  cases hp
/-- what major and counts hand back -/
def resMajor (m : Nat) (ok v : List Nat) : List Int := if allowedB m ok v = false then [-22] else [((Kzi1.major m v : Nat) : Int), if ok.contains (Kzi1.major m v) = true then 1 else 0]
def resCounts (m : Nat) (ok v : List Nat) : List Int := if allowedB m ok v = false then [-22] else (m : Int) :: ((List.range m).map fun q => ((Kzi1.yes v q : Nat) : Int))
theorem major_is (i : Int) (ok v : List Int) : PyKzi1.major i ok v = resMajor i.toNat (ok.map Int.toNat) (v.map Int.toNat) := by
  show (Kzi1.answer (.major i.toNat (ok.map Int.toNat) (v.map Int.toNat))).value :: Kzi1Neutral.ints (Kzi1.answer (.major i.toNat (ok.map Int.toNat) (v.map Int.toNat))).nums = _
  generalize i.toNat = m
  generalize ok.map Int.toNat = os
  generalize v.map Int.toNat = vs
  unfold resMajor
  simp only [Kzi1.answer, good_eq]
  cases allowedB m os vs with
  | false => rfl
  | true =>
    simp only [Bool.true_eq_false, if_false]
    cases os.contains (Kzi1.major m vs) <;> rfl
theorem counts_is (i : Int) (ok v : List Int) : PyKzi1.counts i ok v = resCounts i.toNat (ok.map Int.toNat) (v.map Int.toNat) := by
  show (Kzi1.answer (.counts i.toNat (ok.map Int.toNat) (v.map Int.toNat))).value :: Kzi1Neutral.ints (Kzi1.answer (.counts i.toNat (ok.map Int.toNat) (v.map Int.toNat))).nums = _
  generalize i.toNat = m
  generalize ok.map Int.toNat = os
  generalize v.map Int.toNat = vs
  unfold resCounts
  simp only [Kzi1.answer, good_eq]
  cases allowedB m os vs with
  | false => rfl
  | true =>
    simp only [Bool.true_eq_false, if_false, Kzi1.told, List.length_map, List.length_range, Kzi1Neutral.ints, List.map_map]
    rfl
theorem nat_list : ∀ {l : List Int}, (∀ z ∈ l, 0 ≤ z) → l = (l.map Int.toNat).map fun n : Nat => (n : Int)
  | [], _ => rfl
  | z :: l, h => by
    have h1 := h z (List.mem_cons_self ..)
    have ih := nat_list (l := l) fun y hy => h y (List.mem_cons_of_mem _ hy)
    show z :: l = ((z.toNat : Nat) : Int) :: (l.map Int.toNat).map fun n : Nat => (n : Int)
    rw [← ih, Int.toNat_of_nonneg h1]
end Maj
namespace Maj
/-! rows by their bits -/
theorem bit_test (r q : Nat) : Kzi1.bit r q = r.testBit q := by
  unfold Kzi1.bit
  rw [Nat.testBit_eq_decide_div_mod_eq]
  by_cases h : r / 2 ^ q % 2 = 1 <;> simp [h]
theorem row_lt (m : Nat) (p : Nat → Bool) : Kzi1.row m p < 2 ^ m := by
  induction m with
  | zero => exact Nat.one_pos
  | succ m ih =>
    rw [row_succ, Nat.pow_succ]
    split <;> omega
theorem bit_row {m q : Nat} (p : Nat → Bool) (hq : q < m) : Kzi1.bit (Kzi1.row m p) q = p q := by
  induction m with
  | zero => omega
  | succ m ih =>
    have hl := row_lt m p
    rw [row_succ, bit_test]
    by_cases e : q = m
    · subst e
      cases c : p q with
      | true =>
        rw [if_pos rfl, Nat.add_comm, Nat.testBit_two_pow_add_eq, Nat.testBit_lt_two_pow hl]
        rfl
      | false =>
        rw [if_neg Bool.false_ne_true, Nat.add_zero, Nat.testBit_lt_two_pow hl]
    · have hq2 : q < m := by omega
      have ih2 := ih hq2
      rw [bit_test] at ih2
      cases c : p m with
      | true => rw [if_pos rfl, Nat.add_comm, Nat.testBit_two_pow_add_gt hq2, ih2]
      | false => rw [if_neg Bool.false_ne_true, Nat.add_zero, ih2]
theorem row_ext {m r s : Nat} (hr : r < 2 ^ m) (hs : s < 2 ^ m) (h : ∀ q, q < m → Kzi1.bit r q = Kzi1.bit s q) : r = s := by
  apply Nat.eq_of_testBit_eq
  intro i
  by_cases hi : i < m
  · rw [← bit_test, ← bit_test]
    exact h i hi
  · have hp : 2 ^ m ≤ 2 ^ i := Nat.pow_le_pow_right (by omega) (by omega)
    rw [Nat.testBit_lt_two_pow (by omega), Nat.testBit_lt_two_pow (by omega)]
/-! of three -/
def maj (a b c : Bool) : Bool := (a && b) || (a && c) || (b && c)
theorem med_lt (m x y z : Nat) : Kzi1.median m x y z < 2 ^ m := row_lt _ _
theorem bit_med {m q : Nat} (x y z : Nat) (hq : q < m) : Kzi1.bit (Kzi1.median m x y z) q = maj (Kzi1.bit x q) (Kzi1.bit y q) (Kzi1.bit z q) := bit_row _ hq
theorem med_xx {m x : Nat} (y : Nat) (hx : x < 2 ^ m) : Kzi1.median m x x y = x := row_ext (med_lt ..) hx fun q hq => by
  rw [bit_med _ _ _ hq]
  cases Kzi1.bit x q <;> cases Kzi1.bit y q <;> rfl
theorem med_yx (m x y z : Nat) : Kzi1.median m x y z = Kzi1.median m y x z := row_ext (med_lt ..) (med_lt ..) fun q hq => by
  rw [bit_med _ _ _ hq, bit_med _ _ _ hq]
  cases Kzi1.bit x q <;> cases Kzi1.bit y q <;> cases Kzi1.bit z q <;> rfl
theorem med_xz (m x y z : Nat) : Kzi1.median m x y z = Kzi1.median m x z y := row_ext (med_lt ..) (med_lt ..) fun q hq => by
  rw [bit_med _ _ _ hq, bit_med _ _ _ hq]
  cases Kzi1.bit x q <;> cases Kzi1.bit y q <;> cases Kzi1.bit z q <;> rfl
/-- the least set with ok and closed under the row of three -/
inductive Gen (m : Nat) (ok : List Nat) : Nat → Prop where
  | base {r : Nat} (h : r ∈ ok) : Gen m ok r
  | med {x y z : Nat} (hx : Gen m ok x) (hy : Gen m ok y) (hz : Gen m ok z) : Gen m ok (Kzi1.median m x y z)
theorem Gen.lt {m : Nat} {ok : List Nat} (h : ∀ r ∈ ok, r < 2 ^ m) {r : Nat} (g : Gen m ok r) : r < 2 ^ m := by
  cases g with
  | base hr => exact h r hr
  | med => exact med_lt ..
/-- closed for rising threes is closed for any three -/
theorem closed_any {m : Nat} {S : Nat → Prop} (hS : ∀ r, S r → r < 2 ^ m) (h : ∀ x y z, S x → S y → S z → x < y → y < z → S (Kzi1.median m x y z)) : ∀ x y z, S x → S y → S z → S (Kzi1.median m x y z) := by
  have h2 : ∀ x y z, S x → S y → S z → x < y → S (Kzi1.median m x y z) := by
    intro x y z hx hy hz hxy
    rcases Nat.lt_trichotomy y z with c | c | c
    · exact h x y z hx hy hz hxy c
    · subst c
      rw [med_yx, med_xz, med_xx _ (hS y hy)]
      exact hy
    · rw [med_xz]
      rcases Nat.lt_trichotomy x z with d | d | d
      · exact h x z y hx hz hy d c
      · subst d
        rw [med_xx _ (hS x hx)]
        exact hx
      · rw [med_yx]
        exact h z x y hz hx hy d hxy
  intro x y z hx hy hz
  rcases Nat.lt_trichotomy x y with c | c | c
  · exact h2 x y z hx hy hz c
  · subst c
    rw [med_xx _ (hS x hx)]
    exact hx
  · rw [med_yx]
    exact h2 y x z hy hx hz c
/-! threes -/
theorem mem_threes {l : List Nat} {t : Nat × Nat × Nat} : t ∈ Kzi1.threes l ↔ t.1 ∈ l ∧ t.2.1 ∈ l ∧ t.2.2 ∈ l ∧ t.1 < t.2.1 ∧ t.2.1 < t.2.2 := by
  unfold Kzi1.threes
  simp only [List.mem_flatMap, List.mem_map, List.mem_filter, decide_eq_true_eq]
  constructor
  · rintro ⟨x, hx, y, ⟨hy, hxy⟩, z, ⟨hz, hyz⟩, rfl⟩
    exact ⟨hx, hy, hz, hxy, hyz⟩
  · rintro ⟨hx, hy, hz, hxy, hyz⟩
    exact ⟨t.1, hx, t.2.1, ⟨hy, hxy⟩, t.2.2, ⟨hz, hyz⟩, rfl⟩
theorem mem_stand {m : Nat} {ok : List Nat} {r : Nat} : r ∈ Kzi1.stand m ok ↔ r < 2 ^ m ∧ r ∈ ok := by
  unfold Kzi1.stand Kzi1.rows
  rw [List.mem_filter, List.mem_range, List.contains_eq_mem, decide_eq_true_eq]
theorem mem_wider {m : Nat} {s : List Nat} {r : Nat} : r ∈ Kzi1.wider m s ↔ r < 2 ^ m ∧ (r ∈ s ∨ ∃ x y z, (x < 2 ^ m ∧ x ∈ s) ∧ (y < 2 ^ m ∧ y ∈ s) ∧ (z < 2 ^ m ∧ z ∈ s) ∧ x < y ∧ y < z ∧ Kzi1.median m x y z = r) := by
  unfold Kzi1.wider Kzi1.rows
  simp only [List.mem_filter, List.mem_range, List.contains_eq_mem, Bool.or_eq_true, decide_eq_true_eq, List.mem_map, mem_threes, mem_stand]
  constructor
  · rintro ⟨h1, h2 | ⟨t, ⟨h3, h4, h5, h6, h7⟩, h8⟩⟩
    · exact ⟨h1, .inl h2⟩
    · exact ⟨h1, .inr ⟨t.1, t.2.1, t.2.2, h3, h4, h5, h6, h7, h8⟩⟩
  · rintro ⟨h1, h2 | ⟨x, y, z, h3, h4, h5, h6, h7, h8⟩⟩
    · exact ⟨h1, .inl h2⟩
    · exact ⟨h1, .inr ⟨(x, y, z), ⟨h3, h4, h5, h6, h7⟩, h8⟩⟩
/-- a set of rows, rising: it is the rows that a test takes -/
def IsRows (m : Nat) (s : List Nat) : Prop := s = (Kzi1.rows m).filter s.contains
theorem isRows_filter (m : Nat) (p : Nat → Bool) : IsRows m ((Kzi1.rows m).filter p) := by
  unfold IsRows
  apply List.filter_congr
  intro r hr
  rw [List.contains_eq_mem]
  cases c : p r with
  | true => exact (decide_eq_true (List.mem_filter.mpr ⟨hr, c⟩)).symm
  | false => exact (decide_eq_false fun h => by rw [(List.mem_filter.mp h).2] at c; cases c).symm
theorem isRows_ext {m : Nat} {s t : List Nat} (hs : IsRows m s) (ht : IsRows m t) (h : ∀ r, r ∈ s ↔ r ∈ t) : s = t := by
  rw [hs, ht]
  apply List.filter_congr
  intro r _
  rw [List.contains_eq_mem, List.contains_eq_mem]
  exact decide_eq_decide.mpr (h r)
theorem wider_rows (m : Nat) (s : List Nat) : IsRows m (Kzi1.wider m s) := isRows_filter _ _
theorem stand_rows (m : Nat) (s : List Nat) : IsRows m (Kzi1.stand m s) := isRows_filter _ _
theorem IsRows.lt {m : Nat} {s : List Nat} (h : IsRows m s) {r : Nat} (hr : r ∈ s) : r < 2 ^ m := by
  rw [h] at hr
  exact List.mem_range.mp (List.mem_filter.mp hr).1
theorem IsRows.length_le {m : Nat} {s : List Nat} (h : IsRows m s) : s.length ≤ 2 ^ m := by
  rw [h]
  refine Nat.le_trans (List.length_filter_le _ _) ?_
  rw [Kzi1.rows, List.length_range]
  exact Nat.le_refl _
/-- a rising set within another: shorter, or the same -/
theorem rows_grow {m : Nat} {s t : List Nat} (hs : IsRows m s) (ht : IsRows m t) (h : ∀ r ∈ s, r ∈ t) : s.length < t.length ∨ s = t := by
  have key : ∀ (l : List Nat) (p q : Nat → Bool), (∀ r, p r = true → q r = true) → (l.filter p).length < (l.filter q).length ∨ l.filter p = l.filter q := by
    intro l p q hpq
    induction l with
    | nil => exact .inr rfl
    | cons x l ih =>
      cases cp : p x with
      | true =>
        have cq := hpq x cp
        rw [List.filter_cons, List.filter_cons, if_pos cp, if_pos cq]
        rcases ih with ih | ih
        · exact .inl (by simpa using ih)
        · exact .inr (by rw [ih])
      | false =>
        have cp2 : ¬ p x = true := by rw [cp]; exact Bool.false_ne_true
        rw [List.filter_cons, List.filter_cons, if_neg cp2]
        cases cq : q x with
        | true =>
          rw [if_pos rfl]
          refine .inl ?_
          rw [List.length_cons]
          rcases ih with ih | ih
          · omega
          · rw [ih]
            omega
        | false =>
          rw [if_neg Bool.false_ne_true]
          exact ih
  have e := key (Kzi1.rows m) s.contains t.contains fun r hr => by
    rw [List.contains_eq_mem, decide_eq_true_eq] at hr ⊢
    exact h r hr
  rw [← hs, ← ht] at e
  exact e
theorem wider_len {m : Nat} {s : List Nat} (hs : IsRows m s) : (Kzi1.wider m s).length = s.length ↔ Kzi1.wider m s = s := by
  constructor
  · intro h
    rcases rows_grow hs (wider_rows m s) fun r hr => mem_wider.mpr ⟨hs.lt hr, .inl hr⟩ with c | c
    · omega
    · exact c.symm
  · intro h
    rw [h]
theorem hullOn_spec (m : Nat) : ∀ (f : Nat) (s : List Nat), IsRows m s → 2 ^ m ≤ s.length + f → IsRows m (Kzi1.hullOn m f s) ∧ (∀ r ∈ s, r ∈ Kzi1.hullOn m f s) ∧ Kzi1.wider m (Kzi1.hullOn m f s) = Kzi1.hullOn m f s ∧
    ∀ S : Nat → Prop, (∀ r ∈ s, S r) → (∀ x y z, S x → S y → S z → S (Kzi1.median m x y z)) → ∀ r ∈ Kzi1.hullOn m f s, S r
  | 0, s, hs, hl => by
    have hw : Kzi1.wider m s = s := by
      rcases rows_grow hs (wider_rows m s) fun r hr => mem_wider.mpr ⟨hs.lt hr, .inl hr⟩ with c | c
      · have := (wider_rows m s).length_le
        omega
      · exact c.symm
    exact ⟨hs, fun r hr => hr, hw, fun S h _ r hr => h r hr⟩
  | f + 1, s, hs, hl => by
    have ww := wider_rows m s
    have hsub : ∀ r ∈ s, r ∈ Kzi1.wider m s := fun r hr => mem_wider.mpr ⟨hs.lt hr, .inl hr⟩
    unfold Kzi1.hullOn
    by_cases c : (Kzi1.wider m s).length = s.length
    · have e := (wider_len hs).mp c
      simp only [if_pos c]
      rw [e]
      exact ⟨hs, fun r hr => hr, e, fun S h _ r hr => h r hr⟩
    · simp only [if_neg c]
      have hlt : s.length < (Kzi1.wider m s).length := by
        rcases rows_grow hs ww hsub with d | d
        · exact d
        · rw [← d] at c
          exact absurd rfl c
      obtain ⟨h1, h2, h3, h4⟩ := hullOn_spec m f (Kzi1.wider m s) ww (by omega)
      refine ⟨h1, fun r hr => h2 r (hsub r hr), h3, fun S hS hc r hr => h4 S (fun x hx => ?_) hc r hr⟩
      obtain ⟨_, hx | ⟨a, b, d, ha, hb, hd, _, _, e⟩⟩ := mem_wider.mp hx
      · exact hS x hx
      · rw [← e]
        exact hc a b d (hS a ha.2) (hS b hb.2) (hS d hd.2)
theorem hull_rows (m : Nat) (ok : List Nat) : IsRows m (Kzi1.hull m ok) := (hullOn_spec m _ _ (stand_rows m ok) (by omega)).1
/-- the hull is the least closed set -/
theorem mem_hull {m : Nat} {ok : List Nat} (hok : ∀ r ∈ ok, r < 2 ^ m) {r : Nat} : r ∈ Kzi1.hull m ok ↔ Gen m ok r := by
  obtain ⟨h1, h2, h3, h4⟩ := hullOn_spec m (2 ^ m) (Kzi1.stand m ok) (stand_rows m ok) (by omega)
  constructor
  · exact h4 (Gen m ok) (fun r hr => .base (mem_stand.mp hr).2) (fun x y z hx hy hz => .med hx hy hz) r
  · intro g
    have hc : ∀ x y z, x ∈ Kzi1.hull m ok → y ∈ Kzi1.hull m ok → z ∈ Kzi1.hull m ok → Kzi1.median m x y z ∈ Kzi1.hull m ok := by
      refine closed_any (S := fun r => r ∈ Kzi1.hull m ok) (fun r hr => h1.lt hr) fun x y z hx hy hz hxy hyz => ?_
      show Kzi1.median m x y z ∈ Kzi1.hullOn m (2 ^ m) (Kzi1.stand m ok)
      rw [← h3]
      exact mem_wider.mpr ⟨med_lt .., .inr ⟨x, y, z, ⟨h1.lt hx, hx⟩, ⟨h1.lt hy, hy⟩, ⟨h1.lt hz, hz⟩, hxy, hyz, rfl⟩⟩
    induction g with
    | base h => exact h2 _ (mem_stand.mpr ⟨hok _ h, h⟩)
    | med _ _ _ i1 i2 i3 => exact hc _ _ _ i1 i2 i3
/-! in pairs -/
theorem pairs_iff {m : Nat} {ok : List Nat} {r : Nat} : Kzi1.pairs m ok r = true ↔ ∀ p q, p < m → q < m → ∃ x ∈ ok, Kzi1.bit x p = Kzi1.bit r p ∧ Kzi1.bit x q = Kzi1.bit r q := by
  unfold Kzi1.pairs
  simp only [List.all_eq_true, List.mem_range, List.any_eq_true, Bool.and_eq_true, beq_iff_eq]
  constructor
  · intro h p q hp hq
    exact h p hp q hq
  · intro h p hp q hq
    exact h p q hp hq
theorem gen_pairs {m : Nat} {ok : List Nat} {r : Nat} (g : Gen m ok r) : ∀ p q, p < m → q < m → ∃ x ∈ ok, Kzi1.bit x p = Kzi1.bit r p ∧ Kzi1.bit x q = Kzi1.bit r q := by
  induction g with
  | base h => exact fun p q _ _ => ⟨_, h, rfl, rfl⟩
  | @med x y z _ _ _ i1 i2 i3 =>
    intro p q hp hq
    obtain ⟨a, ha, a1, a2⟩ := i1 p q hp hq
    obtain ⟨b, hb, b1, b2⟩ := i2 p q hp hq
    obtain ⟨c, hc, c1, c2⟩ := i3 p q hp hq
    rw [bit_med _ _ _ hp, bit_med _ _ _ hq, ← a1, ← a2, ← b1, ← b2, ← c1, ← c2]
    have key : (Kzi1.bit a p = maj (Kzi1.bit a p) (Kzi1.bit b p) (Kzi1.bit c p) ∧ Kzi1.bit a q = maj (Kzi1.bit a q) (Kzi1.bit b q) (Kzi1.bit c q)) ∨
        (Kzi1.bit b p = maj (Kzi1.bit a p) (Kzi1.bit b p) (Kzi1.bit c p) ∧ Kzi1.bit b q = maj (Kzi1.bit a q) (Kzi1.bit b q) (Kzi1.bit c q)) ∨
        (Kzi1.bit c p = maj (Kzi1.bit a p) (Kzi1.bit b p) (Kzi1.bit c p) ∧ Kzi1.bit c q = maj (Kzi1.bit a q) (Kzi1.bit b q) (Kzi1.bit c q)) := by
      cases Kzi1.bit a p <;> cases Kzi1.bit b p <;> cases Kzi1.bit c p <;> cases Kzi1.bit a q <;> cases Kzi1.bit b q <;> cases Kzi1.bit c q <;> simp [maj]
    rcases key with k | k | k
    · exact ⟨a, ha, k⟩
    · exact ⟨b, hb, k⟩
    · exact ⟨c, hc, k⟩
/-- two by two is enough: on any list of questions some generated row has r's answers -/
theorem two_enough {m : Nat} {ok : List Nat} {r : Nat} (h : ∀ p q, p < m → q < m → ∃ x ∈ ok, Kzi1.bit x p = Kzi1.bit r p ∧ Kzi1.bit x q = Kzi1.bit r q) (hne : ok ≠ []) :
    ∀ (n : Nat) (l : List Nat), l.length ≤ n → (∀ q ∈ l, q < m) → ∃ x, Gen m ok x ∧ ∀ q ∈ l, Kzi1.bit x q = Kzi1.bit r q
  | _, [], _, _ => by
    obtain ⟨x, hx⟩ := List.exists_mem_of_ne_nil ok hne
    exact ⟨x, .base hx, fun q hq => absurd hq (by simp)⟩
  | _, [p], _, hl => by
    obtain ⟨x, hx, h1, _⟩ := h p p (hl p (by simp)) (hl p (by simp))
    exact ⟨x, .base hx, fun q hq => by rw [List.mem_singleton.mp hq]; exact h1⟩
  | _, [p, p2], _, hl => by
    obtain ⟨x, hx, h1, h2⟩ := h p p2 (hl p (by simp)) (hl p2 (by simp))
    refine ⟨x, .base hx, fun q hq => ?_⟩
    rcases List.mem_cons.mp hq with e | e
    · rw [e]
      exact h1
    · rw [List.mem_singleton.mp e]
      exact h2
  | 0, _ :: _ :: _ :: _, hn, _ => by simp at hn
  | n + 1, i :: j :: k :: l, hn, hl => by
    simp only [List.length_cons] at hn
    have hi := hl i (by simp)
    have hj := hl j (by simp)
    have hk := hl k (by simp)
    have hr : ∀ q ∈ l, q < m := fun q hq => hl q (by simp [hq])
    obtain ⟨a, ga, a1⟩ := two_enough h hne n (j :: k :: l) (by simp only [List.length_cons]; omega) (by simp only [List.mem_cons]; rintro q (e | e | e); exact e ▸ hj; exact e ▸ hk; exact hr q e)
    obtain ⟨b, gb, b1⟩ := two_enough h hne n (i :: k :: l) (by simp only [List.length_cons]; omega) (by simp only [List.mem_cons]; rintro q (e | e | e); exact e ▸ hi; exact e ▸ hk; exact hr q e)
    obtain ⟨c, gc, c1⟩ := two_enough h hne n (i :: j :: l) (by simp only [List.length_cons]; omega) (by simp only [List.mem_cons]; rintro q (e | e | e); exact e ▸ hi; exact e ▸ hj; exact hr q e)
    refine ⟨Kzi1.median m a b c, .med ga gb gc, fun q hq => ?_⟩
    rw [bit_med _ _ _ (hl q hq)]
    have m1 : ∀ u v : Bool, maj u v v = v := by decide
    have m2 : ∀ u v : Bool, maj v u v = v := by decide
    have m3 : ∀ u v : Bool, maj v v u = v := by decide
    simp only [List.mem_cons] at hq
    rcases hq with e | e | e | e
    · rw [b1 q (by simp [e]), c1 q (by simp [e]), m1]
    · rw [a1 q (by simp [e]), c1 q (by simp [e]), m2]
    · rw [a1 q (by simp [e]), b1 q (by simp [e]), m3]
    · rw [a1 q (by simp [e]), b1 q (by simp [e]), m3]
/-- a row is there in pairs just if it is of the hull -/
theorem pairs_gen {m : Nat} {ok : List Nat} {r : Nat} (hne : ok ≠ []) (hok : ∀ x ∈ ok, x < 2 ^ m) (hr : r < 2 ^ m) : Kzi1.pairs m ok r = true ↔ Gen m ok r := by
  rw [pairs_iff]
  constructor
  · intro h
    obtain ⟨x, g, hx⟩ := two_enough h hne m (List.range m) (by rw [List.length_range]; exact Nat.le_refl _) fun q hq => List.mem_range.mp hq
    have e : x = r := row_ext (g.lt hok) hr fun q hq => hx q (List.mem_range.mpr hq)
    exact e ▸ g
  · exact gen_pairs
theorem hull_pairs {m : Nat} {ok : List Nat} (hne : ok ≠ []) (hok : ∀ x ∈ ok, x < 2 ^ m) : Kzi1.hull m ok = (Kzi1.rows m).filter (Kzi1.pairs m ok) := by
  refine isRows_ext (hull_rows m ok) (isRows_filter _ _) fun r => ?_
  rw [mem_hull hok, List.mem_filter, Kzi1.rows, List.mem_range]
  constructor
  · intro g
    exact ⟨g.lt hok, (pairs_gen hne hok (g.lt hok)).mpr g⟩
  · rintro ⟨h1, h2⟩
    exact (pairs_gen hne hok h1).mp h2
/-- any list of rows, rising, that a test takes is the hull if the test says Gen -/
theorem hull_filter {m : Nat} {ok : List Nat} (hok : ∀ x ∈ ok, x < 2 ^ m) (p : Nat → Bool) (h : ∀ r, r < 2 ^ m → (p r = true ↔ Gen m ok r)) : Kzi1.hull m ok = (Kzi1.rows m).filter p := by
  refine isRows_ext (hull_rows m ok) (isRows_filter _ _) fun r => ?_
  rw [mem_hull hok, List.mem_filter, Kzi1.rows, List.mem_range]
  constructor
  · intro g
    exact ⟨g.lt hok, (h r (g.lt hok)).mpr g⟩
  · rintro ⟨h1, h2⟩
    exact (h r h1).mp h2
/-- closed just if the rows of all rising threes stand -/
theorem closed_iff {m : Nat} {ok : List Nat} (hok : ∀ x ∈ ok, x < 2 ^ m) : Kzi1.open_ m ok = none ↔ ∀ x y z, x ∈ ok → y ∈ ok → z ∈ ok → Kzi1.median m x y z ∈ ok := by
  unfold Kzi1.open_
  rw [List.find?_eq_none]
  constructor
  · intro h
    refine closed_any (S := fun r => r ∈ ok) hok fun x y z hx hy hz hxy hyz => ?_
    have q := h (x, y, z) (mem_threes.mpr ⟨mem_stand.mpr ⟨hok x hx, hx⟩, mem_stand.mpr ⟨hok y hy, hy⟩, mem_stand.mpr ⟨hok z hz, hz⟩, hxy, hyz⟩)
    simpa using q
  · intro h t ht
    obtain ⟨hx, hy, hz, _, _⟩ := mem_threes.mp ht
    have q := h t.1 t.2.1 t.2.2 (mem_stand.mp hx).2 (mem_stand.mp hy).2 (mem_stand.mp hz).2
    simpa using q
end Maj
namespace Maj
def casts (l : List Nat) : List Int := l.map fun n : Nat => (n : Int)
def rulesOk (m : Nat) (ok : List Nat) : Bool := decide (1 ≤ m) && decide (m ≤ 5) && rulesB m ok
theorem rulesOk_m {m : Nat} {ok : List Nat} (h : rulesOk m ok = true) : 1 ≤ m ∧ m ≤ 5 := by
  unfold rulesOk at h
  simp only [Bool.and_eq_true, decide_eq_true_eq] at h
  exact h.1
theorem rulesB_facts {m : Nat} {ok : List Nat} (h : rulesB m ok = true) : ok ≠ [] ∧ (∀ r ∈ ok, r < 2 ^ m) ∧ ∀ r ∈ ok, ok.count r ≤ 1 := by
  unfold rulesB at h
  simp only [Bool.and_eq_true, List.all_eq_true, decide_eq_true_eq, Bool.not_eq_true', List.isEmpty_eq_false_iff] at h
  exact ⟨h.1, fun r hr => (h.2 r hr).1, fun r hr => (h.2 r hr).2⟩
theorem rulesOk_b {m : Nat} {ok : List Nat} (h : rulesOk m ok = true) : rulesB m ok = true := by
  unfold rulesOk at h
  rw [Bool.and_eq_true] at h
  exact h.2
theorem allowed_rules {m : Nat} {ok v : List Nat} (h : allowedB m ok v = true) : rulesB m ok = true := by
  unfold allowedB at h
  simp only [Bool.and_eq_true] at h
  exact h.2.1
theorem allowed_in {m : Nat} {ok v : List Nat} (h : allowedB m ok v = true) : ∀ r ∈ v, r ∈ ok := by
  unfold allowedB judgesB at h
  simp only [Bool.and_eq_true, List.all_eq_true, List.contains_eq_mem, decide_eq_true_eq] at h
  exact h.2.2.2
def resAgree (m : Nat) (ok v : List Nat) : List Int := if allowedB m ok v = false then [-22] else ((Kzi1.agree m v).length : Int) :: casts (Kzi1.agree m v)
theorem agree_is (i : Int) (ok v : List Int) : PyKzi1.agree i ok v = resAgree i.toNat (ok.map Int.toNat) (v.map Int.toNat) := by
  show (Kzi1.answer (.agree i.toNat (ok.map Int.toNat) (v.map Int.toNat))).value :: Kzi1Neutral.ints (Kzi1.answer (.agree i.toNat (ok.map Int.toNat) (v.map Int.toNat))).nums = _
  generalize i.toNat = m
  generalize ok.map Int.toNat = os
  generalize v.map Int.toNat = vs
  unfold resAgree
  simp only [Kzi1.answer, good_eq]
  cases allowedB m os vs with
  | false => rfl
  | true => rfl
def resMedian (m x y z : Nat) : List Int := if 1 ≤ m ∧ m ≤ 5 ∧ x < 2 ^ m ∧ y < 2 ^ m ∧ z < 2 ^ m then [((Kzi1.median m x y z : Nat) : Int)] else [-22]
theorem median_is (i x y z : Int) : PyKzi1.median i x y z = resMedian i.toNat x.toNat y.toNat z.toNat := by
  show (Kzi1.answer (.median i.toNat x.toNat y.toNat z.toNat)).value :: Kzi1Neutral.ints (Kzi1.answer (.median i.toNat x.toNat y.toNat z.toNat)).nums = _
  generalize i.toNat = m
  generalize x.toNat = a
  generalize y.toNat = b
  generalize z.toNat = c
  unfold resMedian
  simp only [Kzi1.answer]
  split <;> rfl
def resClosed (m : Nat) (ok : List Nat) : List Int := if rulesOk m ok = false then [-22] else match Kzi1.open_ m ok with
  | none => [1]
  | some t => [0, (t.1 : Int), (t.2.1 : Int), (t.2.2 : Int)]
theorem closed_is (i : Int) (ok : List Int) : PyKzi1.closed i ok = resClosed i.toNat (ok.map Int.toNat) := by
  show (Kzi1.answer (.closed i.toNat (ok.map Int.toNat))).value :: Kzi1Neutral.ints (Kzi1.answer (.closed i.toNat (ok.map Int.toNat))).nums = _
  generalize i.toNat = m
  generalize ok.map Int.toNat = os
  unfold resClosed
  simp only [Kzi1.answer, okRules_eq]
  show _ = if rulesOk m os = false then _ else _
  unfold rulesOk
  cases (decide (1 ≤ m) && decide (m ≤ 5) && rulesB m os) with
  | false => rfl
  | true =>
    simp only [Bool.true_eq_false, if_false]
    cases Kzi1.open_ m os <;> rfl
def resHull (m : Nat) (ok : List Nat) : List Int := if rulesOk m ok = false then [-22] else ((Kzi1.hull m ok).length : Int) :: casts (Kzi1.hull m ok)
theorem hull_is (i : Int) (ok : List Int) : PyKzi1.hull i ok = resHull i.toNat (ok.map Int.toNat) := by
  show (Kzi1.answer (.hull i.toNat (ok.map Int.toNat))).value :: Kzi1Neutral.ints (Kzi1.answer (.hull i.toNat (ok.map Int.toNat))).nums = _
  generalize i.toNat = m
  generalize ok.map Int.toNat = os
  unfold resHull
  simp only [Kzi1.answer, okRules_eq]
  show _ = if rulesOk m os = false then _ else _
  unfold rulesOk
  cases (decide (1 ≤ m) && decide (m ≤ 5) && rulesB m os) with
  | false => rfl
  | true => rfl
def resPairs (m r : Nat) (ok : List Nat) : List Int := if rulesOk m ok = false ∨ 2 ^ m ≤ r then [-22] else [if Kzi1.pairs m ok r = true then 1 else 0]
theorem pairs_is (i r : Int) (ok : List Int) : PyKzi1.pairs i r ok = resPairs i.toNat r.toNat (ok.map Int.toNat) := by
  show (Kzi1.answer (.pairs i.toNat r.toNat (ok.map Int.toNat))).value :: Kzi1Neutral.ints (Kzi1.answer (.pairs i.toNat r.toNat (ok.map Int.toNat))).nums = _
  generalize i.toNat = m
  generalize r.toNat = x
  generalize ok.map Int.toNat = os
  unfold resPairs
  simp only [Kzi1.answer, okRules_eq]
  show _ = if rulesOk m os = false ∨ _ then _ else _
  unfold rulesOk
  split <;> rfl
/-- the row of three by bit operators -/
theorem med_bits {m x y z : Nat} (hx : x < 2 ^ m) (hy : y < 2 ^ m) (hz : z < 2 ^ m) : Kzi1.median m x y z = (x &&& y) ||| (x &&& z) ||| (y &&& z) := by
  apply Nat.eq_of_testBit_eq
  intro i
  by_cases hi : i < m
  · rw [← bit_test, bit_med _ _ _ hi, bit_test, bit_test, bit_test]
    simp only [maj, Nat.testBit_or, Nat.testBit_and]
  · have hp : 2 ^ m ≤ 2 ^ i := Nat.pow_le_pow_right (by omega) (by omega)
    rw [Nat.testBit_lt_two_pow (Nat.lt_of_lt_of_le (med_lt ..) hp)]
    simp only [Nat.testBit_or, Nat.testBit_and]
    rw [Nat.testBit_lt_two_pow (Nat.lt_of_lt_of_le hx hp), Nat.testBit_lt_two_pow (Nat.lt_of_lt_of_le hy hp), Nat.testBit_lt_two_pow (Nat.lt_of_lt_of_le hz hp)]
    rfl
/-- the row of three is the majorities' of three judges -/
theorem med_major (m x y z : Nat) : Kzi1.major m [x, y, z] = Kzi1.median m x y z := by
  unfold Kzi1.major Kzi1.median
  congr 1
  funext q
  unfold Kzi1.isYes Kzi1.yes
  cases a : Kzi1.bit x q <;> cases b : Kzi1.bit y q <;> cases c : Kzi1.bit z q <;> simp [List.filter, a, b, c]
/-- what three_allowed answers -/
def threeB (m x y z : Nat) : Bool := (decide (1 ≤ m) && decide (m ≤ 5)) && (decide (x < 2 ^ m) && (decide (y < 2 ^ m) && decide (z < 2 ^ m)))
theorem threeB_iff {m x y z : Nat} : threeB m x y z = true ↔ 1 ≤ m ∧ m ≤ 5 ∧ x < 2 ^ m ∧ y < 2 ^ m ∧ z < 2 ^ m := by
  unfold threeB
  simp only [Bool.and_eq_true, decide_eq_true_eq]
  exact ⟨fun ⟨⟨a, b⟩, c⟩ => ⟨a, b, c⟩, fun ⟨a, b, c⟩ => ⟨⟨a, b⟩, c⟩⟩
theorem resMedian_no {m x y z : Nat} (h : threeB m x y z = false) : resMedian m x y z = [-22] := by
  unfold resMedian
  rw [if_neg fun q => by rw [threeB_iff.mpr q] at h; cases h]
theorem resMedian_yes {m x y z : Nat} (h : threeB m x y z = true) : resMedian m x y z = [(((x &&& y) ||| (x &&& z) ||| (y &&& z) : Nat) : Int)] := by
  have q := threeB_iff.mp h
  unfold resMedian
  rw [if_pos q, med_bits q.2.2.1 q.2.2.2.1 q.2.2.2.2]
/-- the judges below j that say just r -/
def whoL (v : List Nat) (r j : Nat) : List Nat := (List.range j).filter fun i => v.getD i 0 == r
theorem whoL_len (v : List Nat) (r j : Nat) : (whoL v r j).length ≤ j := by
  have h := List.length_filter_le (fun i => v.getD i 0 == r) (List.range j)
  rw [List.length_range] at h
  exact h
theorem whoL_yes {v : List Nat} {r j : Nat} (h : (v.getD j 0 == r) = true) : whoL v r (j + 1) = whoL v r j ++ [j] := by
  unfold whoL
  rw [List.range_succ, List.filter_append, List.filter_cons, if_pos h]
  rfl
theorem whoL_no {v : List Nat} {r j : Nat} (h : (v.getD j 0 == r) = false) : whoL v r (j + 1) = whoL v r j := by
  unfold whoL
  rw [List.range_succ, List.filter_append, List.filter_cons, if_neg (by rw [h]; exact Bool.false_ne_true)]
  exact List.append_nil _
end Maj
namespace Maj
/-! the first three, index by index -/
/-- the threes behind x; behind x and y -/
def thr1 (s : List Nat) (x : Nat) : List (Nat × Nat × Nat) := (s.filter fun y => decide (x < y)).flatMap fun y => (s.filter fun z => decide (y < z)).map fun z => (x, y, z)
def thr2 (s : List Nat) (x y : Nat) : List (Nat × Nat × Nat) := (s.filter fun z => decide (y < z)).map fun z => (x, y, z)
theorem threes_eq (s : List Nat) : Kzi1.threes s = s.flatMap (thr1 s) := rfl
theorem thr1_eq (s : List Nat) (x : Nat) : thr1 s x = (s.filter fun y => decide (x < y)).flatMap (thr2 s x) := rfl
/-- in a rising list those that are greater than the one at i are those behind it -/
theorem rise_drop : ∀ {s : List Nat} {i x : Nat}, s.Pairwise (· < ·) → s[i]? = some x → (s.filter fun y => decide (x < y)) = s.drop (i + 1)
  | [], i, x, _, h => by simp at h
  | a :: s, 0, x, hp, h => by
    have e : a = x := Option.some.inj h
    subst e
    have h0 := List.pairwise_cons.mp hp
    rw [List.filter_cons, if_neg (by simp), List.drop_succ_cons, List.drop_zero]
    exact List.filter_eq_self.mpr fun y hy => decide_eq_true (h0.1 y hy)
  | a :: s, i + 1, x, hp, h => by
    have h0 := List.pairwise_cons.mp hp
    have hx : s[i]? = some x := h
    have hm : x ∈ s := List.mem_of_getElem? hx
    have hlt := h0.1 x hm
    rw [List.filter_cons, if_neg (by simp only [decide_eq_true_eq]; omega), List.drop_succ_cons]
    exact rise_drop h0.2 hx
theorem isRows_rise {m : Nat} {s : List Nat} (h : IsRows m s) : s.Pairwise (· < ·) := by
  rw [h]
  exact List.Pairwise.filter _ List.pairwise_lt_range
/-- one more of a walk that has found none -/
theorem walk_none {α : Type} {l : List Nat} {i x : Nat} {f : Nat → List α} {p : α → Bool} (hx : l[i]? = some x) (h : ((l.take i).flatMap f).find? p = none) (h2 : (f x).find? p = none) : ((l.take (i + 1)).flatMap f).find? p = none := by
  rw [take_more hx, List.flatMap_append, List.find?_append, h]
  simpa using h2
/-- the walk's first find is the whole's -/
theorem walk_some {α : Type} {l : List Nat} {i x : Nat} {f : Nat → List α} {p : α → Bool} {t : α} (hx : l[i]? = some x) (h : ((l.take i).flatMap f).find? p = none) (h2 : (f x).find? p = some t) : (l.flatMap f).find? p = some t := by
  have hi := (List.getElem?_eq_some_iff.mp hx)
  have e : l = l.take i ++ x :: l.drop (i + 1) := by
    rw [← hi.2, List.getElem_cons_drop, List.take_append_drop]
  rw [e, List.flatMap_append, List.find?_append, h, List.flatMap_cons, List.find?_append, h2]
  rfl
theorem find_map {l : List Nat} {f : Nat → Nat × Nat × Nat} {p : Nat × Nat × Nat → Bool} : (l.map f).find? p = (l.flatMap fun z => [f z]).find? p := by
  have e : (l.flatMap fun z => [f z]) = l.map f := by
    induction l with
    | nil => rfl
    | cons a l ih => rw [List.flatMap_cons, ih]; rfl
  rw [e]
/-- the test: the row of three is not there -/
def outT (m : Nat) (s : List Nat) (t : Nat × Nat × Nat) : Bool := !s.contains (Kzi1.median m t.1 t.2.1 t.2.2)
/-- what first_three_outside hands back -/
def firstT (m : Nat) (s : List Nat) : List Nat := match (Kzi1.threes s).find? (outT m s) with
  | none => []
  | some t => [t.1, t.2.1, t.2.2]
theorem isRows_stand {m : Nat} {s : List Nat} (h : IsRows m s) : Kzi1.stand m s = s := h.symm
theorem open_rows {m : Nat} {s : List Nat} (h : IsRows m s) : Kzi1.open_ m s = (Kzi1.threes s).find? (outT m s) := by
  unfold Kzi1.open_
  rw [isRows_stand h]
  rfl
theorem contains_stand {m : Nat} {ok : List Nat} {r : Nat} (h : r < 2 ^ m) : (Kzi1.stand m ok).contains r = ok.contains r := by
  rw [List.contains_eq_mem, List.contains_eq_mem]
  exact decide_eq_decide.mpr ⟨fun z => (mem_stand.mp z).2, fun z => mem_stand.mpr ⟨h, z⟩⟩
theorem open_stand (m : Nat) (ok : List Nat) : Kzi1.open_ m ok = (Kzi1.threes (Kzi1.stand m ok)).find? (outT m (Kzi1.stand m ok)) := by
  unfold Kzi1.open_
  congr 1
  funext t
  unfold outT
  rw [contains_stand (med_lt ..)]
theorem find_none {s : List Nat} {m : Nat} (h : firstT m s = []) : (Kzi1.threes s).find? (outT m s) = none := by
  unfold firstT at h
  cases e : (Kzi1.threes s).find? (outT m s) with
  | none => rfl
  | some t =>
    rw [e] at h
    cases h
/-! the three loops: what each has walked -/
def W1 (s : List Nat) (p : Nat × Nat × Nat → Bool) (i : Nat) : Prop := ((s.take i).flatMap (thr1 s)).find? p = none
def W2 (s : List Nat) (p : Nat × Nat × Nat → Bool) (x i j : Nat) : Prop := (((s.drop (i + 1)).take j).flatMap (thr2 s x)).find? p = none
def W3 (s : List Nat) (p : Nat × Nat × Nat → Bool) (x y j k : Nat) : Prop := (((s.drop (j + 1)).take k).flatMap fun z => [(x, y, z)]).find? p = none
theorem W1.start (s : List Nat) (p : Nat × Nat × Nat → Bool) : W1 s p 0 := rfl
theorem W2.start (s : List Nat) (p : Nat × Nat × Nat → Bool) (x i : Nat) : W2 s p x i 0 := rfl
theorem W3.start (s : List Nat) (p : Nat × Nat × Nat → Bool) (x y j : Nat) : W3 s p x y j 0 := rfl
theorem thr2_drop {s : List Nat} {j x y : Nat} (hs : s.Pairwise (· < ·)) (hy : s[j]? = some y) (p : Nat × Nat × Nat → Bool) : (thr2 s x y).find? p = ((s.drop (j + 1)).flatMap fun z => [(x, y, z)]).find? p := by
  unfold thr2
  rw [rise_drop hs hy, find_map]
theorem thr1_drop {s : List Nat} {i x : Nat} (hs : s.Pairwise (· < ·)) (hx : s[i]? = some x) : thr1 s x = (s.drop (i + 1)).flatMap (thr2 s x) := by
  rw [thr1_eq, rise_drop hs hx]
theorem drop_at {s : List Nat} {i j y : Nat} (h : s[i + j]? = some y) : (s.drop i)[j]? = some y := by
  rw [List.getElem?_drop]
  exact h
theorem W3.step {s : List Nat} {p : Nat × Nat × Nat → Bool} {x y j k z : Nat} (w : W3 s p x y j k) (hz : s[j + 1 + k]? = some z) (hp : p (x, y, z) = false) : W3 s p x y j (k + 1) :=
  walk_none (drop_at hz) w (by rw [List.find?_singleton, hp]; rfl)
theorem W3.fin {s : List Nat} {p : Nat × Nat × Nat → Bool} {x y j k : Nat} (w : W3 s p x y j k) (hs : s.Pairwise (· < ·)) (hy : s[j]? = some y) (hk : s.length ≤ j + 1 + k) : (thr2 s x y).find? p = none := by
  unfold W3 at w
  rw [List.take_of_length_le (by rw [List.length_drop]; omega)] at w
  rw [thr2_drop hs hy]
  exact w
theorem W3.found {s : List Nat} {p : Nat × Nat × Nat → Bool} {x y j k z : Nat} (w : W3 s p x y j k) (hs : s.Pairwise (· < ·)) (hy : s[j]? = some y) (hz : s[j + 1 + k]? = some z) (hp : p (x, y, z) = true) : (thr2 s x y).find? p = some (x, y, z) := by
  rw [thr2_drop hs hy]
  exact walk_some (drop_at hz) w (by rw [List.find?_singleton, hp]; rfl)
theorem W2.step {s : List Nat} {p : Nat × Nat × Nat → Bool} {x i j y : Nat} (w : W2 s p x i j) (hy : s[i + 1 + j]? = some y) (hp : (thr2 s x y).find? p = none) : W2 s p x i (j + 1) := walk_none (drop_at hy) w hp
theorem W2.fin {s : List Nat} {p : Nat × Nat × Nat → Bool} {x i j : Nat} (w : W2 s p x i j) (hs : s.Pairwise (· < ·)) (hx : s[i]? = some x) (hj : s.length ≤ i + 1 + j) : (thr1 s x).find? p = none := by
  unfold W2 at w
  rw [List.take_of_length_le (by rw [List.length_drop]; omega)] at w
  rw [thr1_drop hs hx]
  exact w
theorem W2.found {s : List Nat} {p : Nat × Nat × Nat → Bool} {x i j y : Nat} {t : Nat × Nat × Nat} (w : W2 s p x i j) (hs : s.Pairwise (· < ·)) (hx : s[i]? = some x) (hy : s[i + 1 + j]? = some y) (hp : (thr2 s x y).find? p = some t) : (thr1 s x).find? p = some t := by
  rw [thr1_drop hs hx]
  exact walk_some (drop_at hy) w hp
theorem W1.step {s : List Nat} {p : Nat × Nat × Nat → Bool} {x i : Nat} (w : W1 s p i) (hx : s[i]? = some x) (hp : (thr1 s x).find? p = none) : W1 s p (i + 1) := walk_none hx w hp
theorem W1.fin {s : List Nat} {p : Nat × Nat × Nat → Bool} (w : W1 s p s.length) : (Kzi1.threes s).find? p = none := by
  unfold W1 at w
  rw [List.take_length] at w
  exact w
theorem W1.found {s : List Nat} {p : Nat × Nat × Nat → Bool} {x i : Nat} {t : Nat × Nat × Nat} (w : W1 s p i) (hx : s[i]? = some x) (hp : (thr1 s x).find? p = some t) : (Kzi1.threes s).find? p = some t := walk_some hx w hp
theorem firstT_none {m : Nat} {s : List Nat} (h : (Kzi1.threes s).find? (outT m s) = none) : firstT m s = [] := by
  unfold firstT
  rw [h]
theorem firstT_is {m x y z : Nat} {s : List Nat} (h : (Kzi1.threes s).find? (outT m s) = some (x, y, z)) : firstT m s = [x, y, z] := by
  unfold firstT
  rw [h]
/-! sorted -/
theorem nodup_of_count {l : List Nat} (h : ∀ r ∈ l, l.count r ≤ 1) : l.Nodup := by
  rw [List.nodup_iff_count]
  intro a
  by_cases c : a ∈ l
  · exact h a c
  · rw [List.count_eq_zero.mpr c]
    omega
theorem stand_perm {m : Nat} {l : List Nat} (hn : l.Nodup) (hl : ∀ r ∈ l, r < 2 ^ m) : (Kzi1.stand m l).Perm l := by
  refine (List.perm_ext_iff_of_nodup ?_ hn).mpr fun _ => ?_
  · exact ((isRows_rise (stand_rows m l)).imp fun h => Nat.ne_of_lt h)
  · rw [mem_stand]
    exact ⟨fun h => h.2, fun h => ⟨hl _ h, h⟩⟩
/-- what sorted gives is the rows that stand, rising -/
theorem sorted_stand {m : Nat} {l : List Nat} {ns : List Int} (hn : l.Nodup) (hl : ∀ r ∈ l, r < 2 ^ m) (p : ns.Perm (l.map fun n : Nat => (n : Int))) (o : ns.Pairwise (· ≤ ·)) : ns = (Kzi1.stand m l).map fun n : Nat => (n : Int) := by
  refine List.Perm.eq_of_pairwise (fun _ _ _ _ a b => Int.le_antisymm a b) o ?_ (p.trans ((stand_perm hn hl).symm.map _))
  refine List.Pairwise.map _ ?_ (isRows_rise (stand_rows m l))
  intro a b h
  exact Int.ofNat_le.mpr (Nat.le_of_lt h)
theorem small_rows {m : Nat} {s : List Nat} (hm : m ≤ 5) (h : IsRows m s) : s.length ≤ 32 := by
  have := h.length_le
  have h2 : 2 ^ m ≤ 2 ^ 5 := Nat.pow_le_pow_right (by omega) hm
  omega
theorem stand_len {m : Nat} {l : List Nat} (hn : l.Nodup) (hl : ∀ r ∈ l, r < 2 ^ m) : (Kzi1.stand m l).length = l.length := (stand_perm hn hl).length_eq
/-! closed and hull -/
theorem resClosed_none {m : Nat} {ok : List Nat} (c : rulesOk m ok = true) (h : firstT m (Kzi1.stand m ok) = []) : resClosed m ok = [1] := by
  unfold resClosed
  rw [if_neg (by rw [c]; exact fun z => Bool.noConfusion z), open_stand, find_none h]
theorem resClosed_some {m : Nat} {ok : List Nat} (c : rulesOk m ok = true) (h : firstT m (Kzi1.stand m ok) ≠ []) : resClosed m ok = 0 :: casts (firstT m (Kzi1.stand m ok)) := by
  unfold resClosed
  rw [if_neg (by rw [c]; exact fun z => Bool.noConfusion z), open_stand]
  unfold firstT at h ⊢
  cases e : (Kzi1.threes (Kzi1.stand m ok)).find? (outT m (Kzi1.stand m ok)) with
  | none =>
    rw [e] at h
    exact absurd rfl h
  | some t => rfl
theorem firstT_len (m : Nat) (s : List Nat) : (firstT m s).length ≤ 3 := by
  unfold firstT
  split <;> simp
/-- what stands between ok and the hull, rising -/
structure Mid (m : Nat) (ok s : List Nat) : Prop where
  rows : IsRows m s
  sub : ∀ r ∈ ok, r ∈ s
  gen : ∀ r ∈ s, Gen m ok r
theorem mid_start {m : Nat} {ok : List Nat} (hl : ∀ r ∈ ok, r < 2 ^ m) : Mid m ok (Kzi1.stand m ok) :=
  ⟨stand_rows m ok, fun r hr => mem_stand.mpr ⟨hl r hr, hr⟩, fun _ hr => .base (mem_stand.mp hr).2⟩
/-- none is outside: it is the hull -/
theorem mid_end {m : Nat} {ok s : List Nat} (hl : ∀ r ∈ ok, r < 2 ^ m) (M : Mid m ok s) (h : firstT m s = []) : s = Kzi1.hull m ok := by
  have hc := (closed_iff (ok := s) fun r hr => M.rows.lt hr).mp ((open_rows M.rows).trans (find_none h))
  refine isRows_ext M.rows (hull_rows m ok) fun r => ?_
  rw [mem_hull hl]
  constructor
  · exact M.gen r
  · intro g
    induction g with
    | base h => exact M.sub _ h
    | med _ _ _ i1 i2 i3 => exact hc _ _ _ i1 i2 i3
/-- one is outside: it is taken in -/
theorem firstT_some {m : Nat} {s : List Nat} (h : firstT m s ≠ []) : ∃ x y z, firstT m s = [x, y, z] ∧ x ∈ s ∧ y ∈ s ∧ z ∈ s ∧ Kzi1.median m x y z ∉ s := by
  cases e : (Kzi1.threes s).find? (outT m s) with
  | none =>
    refine absurd ?_ h
    unfold firstT
    rw [e]
  | some t =>
    have hm := mem_threes.mp (List.mem_of_find?_eq_some e)
    have ho := List.find?_some e
    refine ⟨t.1, t.2.1, t.2.2, ?_, hm.1, hm.2.1, hm.2.2.1, ?_⟩
    · unfold firstT
      rw [e]
    · unfold outT at ho
      simpa using ho
theorem mid_nodup {s : List Nat} {r : Nat} {m : Nat} (h : IsRows m s) (hr : r ∉ s) : (s ++ [r]).Nodup := by
  rw [List.nodup_append]
  refine ⟨(isRows_rise h).imp fun h => Nat.ne_of_lt h, by simp, fun a ha b hb => ?_⟩
  rw [List.mem_singleton.mp hb]
  exact fun e => hr (e ▸ ha)
theorem mid_step {m : Nat} {ok s : List Nat} {x y z : Nat} (M : Mid m ok s) (hx : x ∈ s) (hy : y ∈ s) (hz : z ∈ s) : Mid m ok (Kzi1.stand m (s ++ [Kzi1.median m x y z])) := by
  refine ⟨stand_rows _ _, fun r hr => mem_stand.mpr ⟨M.rows.lt (M.sub r hr), List.mem_append_left _ (M.sub r hr)⟩, fun r hr => ?_⟩
  rcases List.mem_append.mp (mem_stand.mp hr).2 with c | c
  · exact M.gen r c
  · rw [List.mem_singleton.mp c]
    exact .med (M.gen x hx) (M.gen y hy) (M.gen z hz)
/-! in pairs -/
def bothB (ok : List Nat) (r q p : Nat) : Bool := ok.any fun x => Kzi1.bit x q == Kzi1.bit r q && Kzi1.bit x p == Kzi1.bit r p
/-- those of the questions from q on -/
def rowB (m : Nat) (ok : List Nat) (r q : Nat) : Bool := (List.range (m - q)).all fun k => bothB ok r q (q + k)
theorem bothB_sym (ok : List Nat) (r q p : Nat) : bothB ok r q p = bothB ok r p q := by
  unfold bothB
  congr 1
  funext x
  exact Bool.and_comm _ _
theorem pairs_half (m : Nat) (ok : List Nat) (r : Nat) : Kzi1.pairs m ok r = (List.range m).all (rowB m ok r) := by
  rw [Bool.eq_iff_iff]
  unfold Kzi1.pairs
  simp only [List.all_eq_true, List.mem_range, rowB]
  constructor
  · intro h q hq k hk
    exact h q hq (q + k) (by omega)
  · intro h p hp q hq
    rcases Nat.le_total p q with c | c
    · have e : p + (q - p) = q := by omega
      have z := h p hp (q - p) (by omega)
      rw [e] at z
      exact z
    · have e : q + (p - q) = p := by omega
      have z := h q hq (p - q) (by omega)
      rw [e, bothB_sym] at z
      exact z
theorem all_range {f : Nat → Bool} {i : Nat} : (List.range (i + 1)).all f = ((List.range i).all f && f i) := by
  rw [List.range_succ, List.all_append]
  simp
theorem all_range_no {f : Nat → Bool} {i n : Nat} (hi : i < n) (h : f i = false) : (List.range n).all f = false := by
  rw [← Bool.not_eq_true, List.all_eq_true]
  intro q
  rw [q i (List.mem_range.mpr hi)] at h
  cases h
theorem any_take {f : Nat → Bool} {l : List Nat} {i x : Nat} (hx : l[i]? = some x) (h : (l.take i).any f = false) (h2 : f x = false) : (l.take (i + 1)).any f = false := by
  rw [take_more hx, List.any_append, h]
  simpa using h2
theorem any_yes {f : Nat → Bool} {l : List Nat} {i x : Nat} (hx : l[i]? = some x) (h : f x = true) : l.any f = true := List.any_eq_true.mpr ⟨x, List.mem_of_getElem? hx, h⟩
def rowRulesB (m r : Nat) (ok : List Nat) : Bool := rulesOk m ok && decide (r < 2 ^ m)
theorem resPairs_no {m r : Nat} {ok : List Nat} (h : rowRulesB m r ok = false) : resPairs m r ok = [-22] := by
  unfold resPairs
  rw [if_pos]
  unfold rowRulesB at h
  cases c : rulesOk m ok with
  | false => exact .inl rfl
  | true =>
    rw [c, Bool.true_and, decide_eq_false_iff_not] at h
    exact .inr (by omega)
theorem resPairs_yes {m r : Nat} {ok : List Nat} (h : rowRulesB m r ok = true) : resPairs m r ok = [if Kzi1.pairs m ok r = true then 1 else 0] := by
  unfold rowRulesB at h
  rw [Bool.and_eq_true, decide_eq_true_eq] at h
  unfold resPairs
  rw [if_neg]
  rintro (z | z)
  · rw [h.1] at z
    cases z
  · omega
theorem allowed_eq (m : Nat) (ok v : List Nat) : allowedB m ok v = (rulesOk m ok && judgesB ok v) := by
  unfold allowedB rulesOk
  rw [Bool.and_assoc, Bool.and_assoc, Bool.and_assoc]
end Maj
namespace Maj
open PySem PySem.Spec PyProof.Rows L2
open PySem.W (Codec)
/-! values, lists, the table of powers -/
theorem if_true_of {c : Bool} {A B : Prop} (hc : c = true) (h : A) : if c = true then A else B := by
  rw [if_pos hc]
  exact h
theorem if_false_of {c : Bool} {A B : Prop} (hc : c = false) (h : B) : if c = true then A else B := by
  rw [hc, if_neg Bool.false_ne_true]
  exact h
/-- a Nat as a value -/
def nV (n : Nat) : V := .int (n : Int)
def Ls (K : PySem.W.Frag) (H : Hp) (a : Addr) (ns : List Nat) : Prop := SqL K H a (ns.map nV)
theorem ints_nV (ns : List Nat) : ns.map nV = (ns.map fun n : Nat => (n : Int)).map V.int := by
  rw [List.map_map]
  rfl
theorem at_nV {ns : List Nat} {i : Nat} {y : V} (h : (ns.map nV)[i]? = some y) : ∃ z, ns[i]? = some z ∧ y = nV z := by
  rw [List.getElem?_map] at h
  cases e : ns[i]? with
  | none =>
    rw [e] at h
    cases h
  | some z =>
    rw [e] at h
    exact ⟨z, rfl, (Option.some.inj h).symm⟩
theorem flat_nV (ns : List Nat) : (ns.map nV).all flatV = true := by
  rw [List.all_eq_true]
  intro x hx
  obtain ⟨n, _, rfl⟩ := List.mem_map.mp hx
  rfl
theorem in_nV (z : Nat) (ns : List Nat) : inV (nV z) (ns.map nV) = ns.contains z := by
  unfold inV
  rw [List.any_map]
  induction ns with
  | nil => rfl
  | cons n ns ih =>
    rw [List.any_cons, ih, List.contains_cons]
    have e : ((fun y => eqV y (nV z)) ∘ nV) n = (z == n) := by
      show ((n : Int) == (z : Int)) = (z == n)
      by_cases h : n = z
      · subst h
        simp
      · have h2 : ¬ (n : Int) = (z : Int) := by omega
        have h3 : ¬ z = n := fun q => h q.symm
        rw [beq_eq_false_iff_ne.mpr h2, beq_eq_false_iff_ne.mpr h3]
    rw [e]
theorem count_nV (z : Nat) (ns : List Nat) : (ns.map fun n : Nat => (n : Int)).count (z : Int) = ns.count z := by
  induction ns with
  | nil => rfl
  | cons n ns ih =>
    rw [List.map_cons, List.count_cons, List.count_cons, ih]
    by_cases h : n = z
    · subst h
      simp
    · have h2 : ¬ (n : Int) = (z : Int) := by omega
      rw [beq_eq_false_iff_ne.mpr h2, beq_eq_false_iff_ne.mpr h]
def powV : List V := [.int 1, .int 2, .int 4, .int 8, .int 16, .int 32]
theorem pow_at {m : Nat} (h : m ≤ 5) : atI powV (m : Int) = some (.int ((2 ^ m : Nat) : Int)) := by
  have h2 : m = 0 ∨ m = 1 ∨ m = 2 ∨ m = 3 ∨ m = 4 ∨ m = 5 := by omega
  rcases h2 with e | e | e | e | e | e <;> subst e <;> rfl
theorem ls_ty {K : PySem.W.Frag} {H : Hp} {a : Addr} {xs : List V} (h : SqL K H a xs) : TyX K H (.ref a) (.type "list") := by
  rcases h with (h | ⟨o, h⟩) | ⟨o, _, _, h, c, _⟩
  · exact .base (.lst h)
  · exact .base (.frz h)
  · exact .kList h c
theorem same_new {H : Hp} {p : Addr} {o : HO} (h : H p = none) : Same H (upd H p o) := fun b u e => by
  rw [upd_ne (ne_of_none e h)]
  exact e
theorem same_put {H H' : Hp} {p : Addr} {o : HO} (s : Same H H') (h : H p = none) : Same H (upd H' p o) := fun b u e => by
  rw [upd_ne (ne_of_none e h)]
  exact s b u e
theorem Same.ls {K : PySem.W.Frag} {H H' : Hp} {a : Addr} {ns : List Nat} (e : Same H H') (h : Ls K H a ns) : Ls K H' a ns := e.seq h
theorem int_lt (a b : Nat) : decide ((a : Int) < (b : Int)) = decide (a < b) := decide_eq_decide.mpr Int.ofNat_lt
theorem int_le (a b : Nat) : decide ((a : Int) ≤ (b : Int)) = decide (a ≤ b) := decide_eq_decide.mpr Int.ofNat_le
/-- a def of the text, its parameters, its name -/
structure Df (K : PySem.W.Frag) (mg : Str → Option Value) (x : Str) (st : Stmt) (ps : List Str) (f : Addr) (fd : FuncData) : Prop where
  fn : Fun K x x st f fd
  b : Binds K fd ps []
  g : mg x = some (.ref f)
/-- what the top has written -/
structure Txt (K : PySem.W.Frag) (mg : Str → Option Value) (pw : Addr) : Prop where
  isi : mg "isinstance" = none
  int : mg "int" = none
  bool : mg "bool" = none
  list : mg "list" = none
  len : mg "len" = none
  range : mg "range" = none
  mq : ∃ t, mg "MOST_QUESTIONS" = some (.int 5 t)
  rf : ∃ t, mg "REFUSED" = some (.int (-22) t)
  gp : mg "POWERS" = some (.ref pw)
  pw : ∀ H : Hp, SqT K H pw powV
theorem eq_nV (x y : Nat) : decide (nV x = nV y) = (x == y) := by
  by_cases h : x = y
  · subst h
    simp
  · have h2 : ¬ nV x = nV y := fun z => h (by have := V.int.inj z; omega)
    rw [decide_eq_false h2, beq_eq_false_iff_ne.mpr h]
/-! the promises -/
def spThree : Sp := fun vs H Q _ => ∃ m x y z : Nat, vs = [nV m, nV x, nV y, nV z] ∧ Q (.bl (threeB m x y z)) H
def spThr : Sp := fun vs H Q _ => ∃ x y z : Nat, vs = [nV x, nV y, nV z] ∧ Q (nV ((x &&& y) ||| (x &&& z) ||| (y &&& z))) H
def spMedian (_ : PySem.W.Frag) : Sp := fun vs _ Q _ => ∃ m x y z : Nat, vs = [nV m, nV x, nV y, nV z] ∧ ∀ (H' : Hp) (p : Addr), H' p = some (.lst ((resMedian m x y z).map V.int)) → Q (.ref p) H'
def spWho (K : PySem.W.Frag) : Sp := fun vs H Q _ => ∃ (b : Addr) (v : List Nat) (r : Nat), vs = [.ref b, nV r] ∧ Ls K H b v ∧ v.length ≤ 1000 ∧ ∀ (H' : Hp) (p : Addr), Same H H' → H' p = some (.lst ((whoL v r v.length).map nV)) → Q (.ref p) H'
def spAgree (K : PySem.W.Frag) : Sp := fun vs H Q _ => ∃ (m : Nat) (a b : Addr) (ok v : List Nat), vs = [nV m, .ref a, .ref b] ∧ Ls K H a ok ∧ Ls K H b v ∧
  ∀ (H' : Hp) (p : Addr), H' p = some (.lst ((resAgree m ok v).map V.int)) → Q (.ref p) H'
def spIsNum : Sp := fun vs H Q _ => ∃ i : Int, vs = [.int i] ∧ Q (.bl true) H
def spIsRow : Sp := fun vs H Q _ => ∃ m x : Nat, vs = [nV m, nV x] ∧ m ≤ 5 ∧ Q (.bl (decide (x < 2 ^ m))) H
def spQues : Sp := fun vs H Q _ => ∃ m : Nat, vs = [nV m] ∧ Q (.bl (decide (1 ≤ m) && decide (m ≤ 5))) H
def spRules (K : PySem.W.Frag) : Sp := fun vs H Q _ => ∃ (m : Nat) (a : Addr) (ns : List Nat), vs = [nV m, .ref a] ∧ Ls K H a ns ∧ Q (.bl (rulesOk m ns)) H
def spRowRules (K : PySem.W.Frag) : Sp := fun vs H Q _ => ∃ (m r : Nat) (a : Addr) (ns : List Nat), vs = [nV m, nV r, .ref a] ∧ Ls K H a ns ∧ Q (.bl (rowRulesB m r ns)) H
def spFirst (K : PySem.W.Frag) : Sp := fun vs H Q _ => ∃ (m : Nat) (b : Addr) (s : List Nat), vs = [.ref b] ∧ Ls K H b s ∧ m ≤ 5 ∧ IsRows m s ∧ ∀ (H' : Hp) (p : Addr), Same H H' → H' p = some (.lst ((firstT m s).map nV)) → Q (.ref p) H'
def spHullRows (K : PySem.W.Frag) : Sp := fun vs H Q _ => ∃ (m : Nat) (b : Addr) (ok : List Nat), vs = [.ref b] ∧ Ls K H b ok ∧ m ≤ 5 ∧ ok.Nodup ∧ (∀ r ∈ ok, r < 2 ^ m) ∧ ∀ (H' : Hp) (p : Addr), Same H H' → H' p = some (.lst ((Kzi1.hull m ok).map nV)) → Q (.ref p) H'
def spSame : Sp := fun vs H Q _ => ∃ x y q : Nat, vs = [nV x, nV y, nV q] ∧ q ≤ 5 ∧ Q (.bl (Kzi1.bit x q == Kzi1.bit y q)) H
def spBoth (K : PySem.W.Frag) : Sp := fun vs H Q _ => ∃ (a : Addr) (ok : List Nat) (r q p : Nat), vs = [.ref a, nV r, nV q, nV p] ∧ Ls K H a ok ∧ q ≤ 5 ∧ p ≤ 5 ∧ Q (.bl (bothB ok r q p)) H
def spIn (K : PySem.W.Frag) : Sp := fun vs H Q _ => ∃ (m r : Nat) (a : Addr) (ok : List Nat), vs = [nV m, nV r, .ref a] ∧ Ls K H a ok ∧ m ≤ 5 ∧ Q (.bl (Kzi1.pairs m ok r)) H
def spJudges (K : PySem.W.Frag) : Sp := fun vs H Q _ => ∃ (a b : Addr) (ok v : List Nat), vs = [.ref a, .ref b] ∧ Ls K H a ok ∧ Ls K H b v ∧ Q (.bl (judgesB ok v)) H
def spPanel (K : PySem.W.Frag) : Sp := fun vs H Q _ => ∃ (m : Nat) (a b : Addr) (ok v : List Nat), vs = [nV m, .ref a, .ref b] ∧ Ls K H a ok ∧ Ls K H b v ∧ Q (.bl (allowedB m ok v)) H
def spSays : Sp := fun vs H Q _ => ∃ r q : Nat, vs = [nV r, nV q] ∧ q ≤ 5 ∧ Q (.bl (Kzi1.bit r q)) H
def spCount (K : PySem.W.Frag) : Sp := fun vs H Q _ => ∃ (b : Addr) (v : List Nat) (q : Nat), vs = [.ref b, nV q] ∧ Ls K H b v ∧ v.length ≤ 1000 ∧ q ≤ 5 ∧ ∀ H', Same H H' → Q (nV (Kzi1.yes v q)) H'
def spMost (K : PySem.W.Frag) : Sp := fun vs H Q _ => ∃ (b : Addr) (v : List Nat) (q : Nat), vs = [.ref b, nV q] ∧ Ls K H b v ∧ v.length ≤ 1000 ∧ q ≤ 5 ∧ ∀ H', Same H H' → Q (.bl (Kzi1.isYes v q)) H'
def spRow (K : PySem.W.Frag) : Sp := fun vs H Q _ => ∃ (m : Nat) (b : Addr) (v : List Nat), vs = [nV m, .ref b] ∧ Ls K H b v ∧ v.length ≤ 1000 ∧ m ≤ 5 ∧ ∀ H', Same H H' → Q (nV (Kzi1.major m v)) H'
def spMajor (K : PySem.W.Frag) : Sp := fun vs H Q _ => ∃ (m : Nat) (a b : Addr) (ok v : List Nat), vs = [nV m, .ref a, .ref b] ∧ Ls K H a ok ∧ Ls K H b v ∧
  ∀ (H' : Hp) (p : Addr), H' p = some (.lst ((resMajor m ok v).map V.int)) → Q (.ref p) H'
def spCounts (K : PySem.W.Frag) : Sp := fun vs H Q _ => ∃ (m : Nat) (a b : Addr) (ok v : List Nat), vs = [nV m, .ref a, .ref b] ∧ Ls K H a ok ∧ Ls K H b v ∧
  ∀ (H' : Hp) (p : Addr), H' p = some (.lst ((resCounts m ok v).map V.int)) → Q (.ref p) H'
def spClosed (K : PySem.W.Frag) : Sp := fun vs H Q _ => ∃ (m : Nat) (a : Addr) (ok : List Nat), vs = [nV m, .ref a] ∧ Ls K H a ok ∧ ∀ (H' : Hp) (p : Addr), H' p = some (.lst ((resClosed m ok).map V.int)) → Q (.ref p) H'
def spHull (K : PySem.W.Frag) : Sp := fun vs H Q _ => ∃ (m : Nat) (a : Addr) (ok : List Nat), vs = [nV m, .ref a] ∧ Ls K H a ok ∧ ∀ (H' : Hp) (p : Addr), H' p = some (.lst ((resHull m ok).map V.int)) → Q (.ref p) H'
def spPairs (K : PySem.W.Frag) : Sp := fun vs H Q _ => ∃ (m r : Nat) (a : Addr) (ok : List Nat), vs = [nV m, nV r, .ref a] ∧ Ls K H a ok ∧ ∀ (H' : Hp) (p : Addr), H' p = some (.lst ((resPairs m r ok).map V.int)) → Q (.ref p) H'
def top (i : Nat) : Stmt := PySem.Challenge.pw_majorityrows_s07_pairs.main.body.getD i (.Pass ⟨0, 0, 0, 0⟩)
abbrev s_is_number : Stmt := top 4
abbrev s_is_row : Stmt := top 5
abbrev s_questions_allowed : Stmt := top 6
abbrev s_rules_allowed : Stmt := top 7
abbrev s_row_and_rules_allowed : Stmt := top 8
abbrev s_says_yes : Stmt := top 9
abbrev s_same_answer : Stmt := top 10
abbrev s_some_row_has_both : Stmt := top 11
abbrev s_is_there_in_pairs : Stmt := top 12
abbrev s_pairs : Stmt := top 13
section
variable {P : Program} {w : World} {K : PySem.W.Frag} {mg : Str → Option Value} {base : Heap} {pw : Addr}
theorem sc_is_number : FnScope ["x"] ["x"] (defScope s_is_number) := ⟨rfl, rfl, rfl, by decide +kernel, rfl, by decide +kernel, by decide +kernel⟩
theorem ok_is_number {f : Addr} {fd : FuncData} (D : Df K mg "is_number" s_is_number ["x"] f fd) (T : Txt K mg pw) : FnOk P w K mg base CX0 1 f fd ["x"] spIsNum := by
  refine D.fn.ok sc_is_number (fun vs H Q E h => ?_) (fun cdv A outer s H vs Q E hr h => ?_)
  · obtain ⟨i, rfl, _⟩ := h
    rfl
  · obtain ⟨i, rfl, q⟩ := h
    refine ⟨_, pss_one (ps_ret (pe_and (pe_callB call_isi (by rfl) T.isi (by decide +kernel) (pa_cons (pv 0) (pa_cons (pe_bltn (v := .ty "int") (by rfl) T.int (by decide +kernel) rfl) pa_nil)))
      (pe_one (pe_not (pe_callB call_isi (by rfl) T.isi (by decide +kernel) (pa_cons (pv 0) (pa_cons (pe_bltn (v := .ty "bool") (by rfl) T.bool (by decide +kernel) rfl) pa_nil))))))), ?_⟩
    refine ⟨_, rfl, _, _, _, _, true, rfl, .ty _, .base (.int i), kit_ty (by decide +kernel), true, rfl, iteT ?_⟩
    refine ⟨_, rfl, _, _, _, _, false, rfl, .ty _, .base (.int i), kit_ty (by decide +kernel), false, rfl, ?_⟩
    exact q
theorem sc_is_row : FnScope ["m", "x"] ["m", "x"] (defScope s_is_row) := ⟨rfl, rfl, rfl, by decide +kernel, rfl, by decide +kernel, by decide +kernel⟩
theorem ok_is_row {f f1 : Addr} {fd fd1 : FuncData} (D : Df K mg "is_row" s_is_row ["m", "x"] f fd) (T : Txt K mg pw) (D1 : Df K mg "is_number" s_is_number ["x"] f1 fd1) : FnOk P w K mg base CX0 2 f fd ["m", "x"] spIsRow := by
  have G1 : FnOk P w K mg base CX0 1 f1 fd1 ["x"] spIsNum := ok_is_number D1 T
  refine D.fn.ok sc_is_row (fun vs H Q E h => ?_) (fun cdv A outer s H vs Q E hr h => ?_)
  · obtain ⟨m, x, rfl, _⟩ := h
    rfl
  · obtain ⟨m, x, rfl, hm, q⟩ := h
    refine ⟨_, pss_one (ps_ret (pe_and (pe_call G1 hr rfl D1.g D1.fn.kp D1.b .nil pass0 (pa_cons (pv 1) pa_nil))
      (pe_one (pe_chain op_le op_lt pe_int (pv 1) (pe_ix ix_tup (pe_glob (v := .ref pw) rfl T.gp rfl) (pv 0) (fun _ _ => rfl)))))), ?_⟩
    refine ⟨_, rfl, _, rfl, true, rfl, iteT ?_⟩
    refine ⟨_, rfl, _, _, rfl, rfl, _, rfl, if_true_of (decide_eq_true (Int.natCast_nonneg x)) ?_⟩
    refine ⟨_, rfl, pw, powV, _, _, rfl, rfl, T.pw _, pow_at hm, _, _, rfl, rfl, ?_⟩
    show Q (V.bl (decide ((x : Int) < ((2 ^ m : Nat) : Int)))) H
    rw [int_lt]
    exact q
theorem sc_questions_allowed : FnScope ["m"] ["m"] (defScope s_questions_allowed) := ⟨rfl, rfl, rfl, by decide +kernel, rfl, by decide +kernel, by decide +kernel⟩
theorem ok_questions_allowed {f f1 : Addr} {fd fd1 : FuncData} (D : Df K mg "questions_allowed" s_questions_allowed ["m"] f fd) (T : Txt K mg pw) (D1 : Df K mg "is_number" s_is_number ["x"] f1 fd1) : FnOk P w K mg base CX0 2 f fd ["m"] spQues := by
  have G1 : FnOk P w K mg base CX0 1 f1 fd1 ["x"] spIsNum := ok_is_number D1 T
  obtain ⟨tq, hq⟩ := T.mq
  refine D.fn.ok sc_questions_allowed (fun vs H Q E h => ?_) (fun cdv A outer s H vs Q E hr h => ?_)
  · obtain ⟨m, rfl, _⟩ := h
    rfl
  · obtain ⟨m, rfl, q⟩ := h
    refine ⟨_, pss_one (ps_ret (pe_and (pe_call G1 hr rfl D1.g D1.fn.kp D1.b .nil pass0 (pa_cons (pv 0) pa_nil))
      (pe_one (pe_chain op_le op_le pe_int (pv 0) (pe_glob (v := .int 5) rfl hq ⟨_, rfl⟩))))), ?_⟩
    refine ⟨_, rfl, _, rfl, true, rfl, iteT ?_⟩
    refine ⟨_, rfl, _, _, rfl, rfl, _, rfl, ?_⟩
    have e1 : decide ((1 : Int) ≤ (m : Int)) = decide (1 ≤ m) := int_le 1 m
    rw [e1]
    have e2 : decide ((m : Int) ≤ (5 : Int)) = decide (m ≤ 5) := int_le m 5
    by_cases h1 : 1 ≤ m
    · rw [decide_eq_true h1] at q ⊢
      refine iteT ?_
      refine ⟨_, _, rfl, rfl, ?_⟩
      show Q (V.bl (decide ((m : Int) ≤ (5 : Int)))) H
      rw [e2]
      exact q
    · rw [decide_eq_false h1] at q ⊢
      exact iteF q
theorem sc_rules_allowed : FnScope ["m", "ok", "row"] ["m", "ok"] (defScope s_rules_allowed) := ⟨rfl, rfl, rfl, by decide +kernel, rfl, by decide +kernel, by decide +kernel⟩
theorem ok_rules_allowed {f f1 f2 f3 : Addr} {fd fd1 fd2 fd3 : FuncData} (D : Df K mg "rules_allowed" s_rules_allowed ["m", "ok"] f fd) (T : Txt K mg pw) (D1 : Df K mg "is_number" s_is_number ["x"] f1 fd1) (D2 : Df K mg "is_row" s_is_row ["m", "x"] f2 fd2) (D3 : Df K mg "questions_allowed" s_questions_allowed ["m"] f3 fd3) :
    FnOk P w K mg base CX0 3 f fd ["m", "ok"] (spRules K) := by
  have G2 : FnOk P w K mg base CX0 2 f2 fd2 ["m", "x"] spIsRow := ok_is_row D2 T D1
  have G3 : FnOk P w K mg base CX0 2 f3 fd3 ["m"] spQues := ok_questions_allowed D3 T D1
  refine D.fn.ok sc_rules_allowed (fun vs H Q E h => ?_) (fun cdv A outer s H vs Q E hr h => ?_)
  · obtain ⟨m, a, ns, rfl, _⟩ := h
    rfl
  · obtain ⟨m, a, ns, rfl, hS, q⟩ := h
    refine ⟨_, pss_cons (ps_if (PW.pt (pw_or (pt_not (pt_val (pe_call G3 hr rfl D3.g D3.fn.kp D3.b .nil pass0 (pa_cons (pv 0) pa_nil)))) (pw_or (pt_not (pt_val (pe_callB call_isi (by rfl) T.isi (by decide +kernel) (pa_cons (pv 1) (pa_cons (pe_bltn (v := .ty "list") (by rfl) T.list (by decide +kernel) rfl) pa_nil)))))
          (pw_or1 (pt_cmpR op_eq (pe_callB call_len_seq (by rfl) T.len PySem.boot_len (pa_cons (pv 1) pa_nil)) pe_int (nomark _)))))) (pss_one (ps_ret pe_bl)) pss_nil)
      (pss_cons (ps_for PassesOwn.never rfl (pi_list (pv 1)) (pg_name (i := 2) sc_rules_allowed.nd rfl (Or.inl rfl))
        (pss_one (ps_if (PW.pt (pw_or (pt_not (pt_val (pe_call G2 hr rfl D2.g D2.fn.kp D2.b .nil pass0 (pa_cons (pv 0) (pa_cons (pv 2) pa_nil)))))
          (pw_or1 (pt_cmpR op_gt (pe_bm PySem.F.plainAttrs_list PySem.F.slot_list_count PySem.F.type_list_count mt_lcount (pv 1) (pa_cons (pv 2) pa_nil)) pe_int (nomark _))))) (pss_one (ps_ret pe_bl)) pss_nil)))
      (pss_one (ps_ret pe_bl))), ?_⟩
    refine ⟨_, rfl, m, rfl, _, rfl, ?_⟩
    unfold rulesOk at q
    cases c0 : (decide (1 ≤ m) && decide (m ≤ 5)) with
    | false =>
      rw [c0] at q
      exact iteT q
    | true =>
    rw [c0, Bool.true_and] at q
    have hm : m ≤ 5 := (by simpa using c0 : 1 ≤ m ∧ m ≤ 5).2
    refine iteF ?_
    refine ⟨_, rfl, _, _, _, _, true, rfl, .ty _, ls_ty hS, kit_ty (by decide +kernel), true, rfl, iteF ?_⟩
    refine ⟨_, rfl, _, _, rfl, .inl hS, rfl, _, rfl, ?_⟩
    cases ns with
    | nil => exact if_true_of (decide_eq_true rfl) q
    | cons n0 nr =>
      refine if_false_of (decide_eq_false fun z => ?_) ?_
      · have z2 : ((nr.length + 1 : Nat) : Int) = 0 := by
          rw [List.map_cons, List.length_cons, List.length_map] at z
          exact V.int.inj z
        omega
      · generalize hns : n0 :: nr = ns at hS q ⊢
        have hne : ns.isEmpty = false := by
          rw [← hns]
          rfl
        have hS2 : SqL K H a ((ns.map fun n : Nat => (n : Int)).map V.int) := by
          rw [← ints_nV]
          exact hS
        refine ⟨_, rfl, a, rfl, ⟨_, hS⟩, for_list (K := K) (a := a) (xs := ns.map nV) (fun i σ H' => ∃ v : Option V, σ = [some (nV m), some (.ref a), v] ∧ H' = H ∧ (ns.take i).all (fun r => decide (r < 2 ^ m) && decide (ns.count r ≤ 1)) = true)
          ⟨none, rfl, rfl, rfl⟩ (fun i σ H' _ ⟨_, _, e, _⟩ => by rw [e]; exact hS) ?_ ?_⟩
        · rintro i y σ H' hi ⟨v, rfl, rfl, hp⟩
          obtain ⟨z, hz, rfl⟩ := at_nV hi
          refine ⟨_, rfl, _, rfl, m, z, rfl, hm, _, rfl, ?_⟩
          by_cases c1 : z < 2 ^ m
          · refine if_false_of (by rw [decide_eq_true c1]; rfl) ?_
            refine ⟨_, rfl, .inl ⟨rfl, _, hS⟩, _, rfl, a, _, _, rfl, rfl, hS2, _, _, rfl, rfl, _, rfl, ?_⟩
            have ec : decide ((1 : Int) < (((ns.map fun n : Nat => (n : Int)).count (z : Int) : Nat) : Int)) = decide (1 < ns.count z) := by
              rw [count_nV]
              exact int_lt 1 _
            rw [ec]
            by_cases c2 : 1 < ns.count z
            · refine if_true_of (decide_eq_true c2) ?_
              have e : rulesB m ns = false := by
                unfold rulesB
                rw [not_all hz (by rw [decide_eq_false (show ¬ ns.count z ≤ 1 by omega)]; exact Bool.and_false _)]
                exact Bool.and_false _
              rw [e] at q
              exact q
            · refine if_false_of (decide_eq_false c2) ?_
              refine ⟨some (nV z), rfl, rfl, ?_⟩
              rw [all_take hz, hp, decide_eq_true c1, decide_eq_true (show ns.count z ≤ 1 by omega)]
              rfl
          · refine if_true_of (by rw [decide_eq_false c1]; rfl) ?_
            have e : rulesB m ns = false := by
              unfold rulesB
              rw [not_all hz (by rw [decide_eq_false c1]; rfl)]
              exact Bool.and_false _
            rw [e] at q
            exact q
        · rintro σ H' ⟨v, rfl, rfl, hp⟩
          rw [List.length_map, List.take_length] at hp
          have e : rulesB m ns = true := by
            unfold rulesB
            rw [hp, hne]
            rfl
          rw [e] at q
          exact q
theorem sc_row_and_rules_allowed : FnScope ["m", "r", "ok"] ["m", "r", "ok"] (defScope s_row_and_rules_allowed) := ⟨rfl, rfl, rfl, by decide +kernel, rfl, by decide +kernel, by decide +kernel⟩
theorem ok_row_and_rules_allowed {f f1 f2 f3 f4 : Addr} {fd fd1 fd2 fd3 fd4 : FuncData} (D : Df K mg "row_and_rules_allowed" s_row_and_rules_allowed ["m", "r", "ok"] f fd) (T : Txt K mg pw) (D1 : Df K mg "is_number" s_is_number ["x"] f1 fd1) (D2 : Df K mg "is_row" s_is_row ["m", "x"] f2 fd2)
    (D3 : Df K mg "questions_allowed" s_questions_allowed ["m"] f3 fd3) (D4 : Df K mg "rules_allowed" s_rules_allowed ["m", "ok"] f4 fd4) : FnOk P w K mg base CX0 4 f fd ["m", "r", "ok"] (spRowRules K) := by
  have G2 : FnOk P w K mg base CX0 2 f2 fd2 ["m", "x"] spIsRow := ok_is_row D2 T D1
  have G4 : FnOk P w K mg base CX0 3 f4 fd4 ["m", "ok"] (spRules K) := ok_rules_allowed D4 T D1 D2 D3
  refine D.fn.ok sc_row_and_rules_allowed (fun vs H Q E h => ?_) (fun cdv A outer s H vs Q E hr h => ?_)
  · obtain ⟨m, r, a, ok, rfl, _⟩ := h
    rfl
  · obtain ⟨m, r, a, ok, rfl, hS, q⟩ := h
    have hr2 : Room 2 _ := hr.mono (by decide)
    refine ⟨_, pss_one (ps_ret (pe_and (pe_call G4 hr rfl D4.g D4.fn.kp D4.b .nil pass0 (pa_cons (pv 0) (pa_cons (pv 2) pa_nil)))
      (pe_one (pe_call G2 hr2 rfl D2.g D2.fn.kp D2.b .nil pass0 (pa_cons (pv 0) (pa_cons (pv 1) pa_nil)))))), ?_⟩
    refine ⟨_, rfl, _, rfl, m, a, ok, rfl, hS, _, rfl, ?_⟩
    unfold rowRulesB at q
    cases c2 : rulesOk m ok with
    | false =>
      rw [c2] at q
      exact iteF q
    | true =>
      rw [c2] at q
      refine iteT ?_
      exact ⟨_, rfl, _, rfl, m, r, rfl, (rulesOk_m c2).2, q⟩
theorem sc_says_yes : FnScope ["row", "q"] ["row", "q"] (defScope s_says_yes) := ⟨rfl, rfl, rfl, by decide +kernel, rfl, by decide +kernel, by decide +kernel⟩
theorem ok_says_yes {f : Addr} {fd : FuncData} (D : Df K mg "says_yes" s_says_yes ["row", "q"] f fd) (T : Txt K mg pw) : FnOk P w K mg base CX0 1 f fd ["row", "q"] spSays := by
  refine D.fn.ok sc_says_yes (fun vs H Q E h => ?_) (fun cdv A outer s H vs Q E hr h => ?_)
  · obtain ⟨r, i, rfl, _⟩ := h
    rfl
  · obtain ⟨r, i, rfl, hi, q⟩ := h
    refine ⟨_, pss_one (ps_ret (pe_cmpR op_ne (pe_op op_and (pv 0) (pe_ix ix_tup (pe_glob (v := .ref pw) rfl T.gp rfl) (pv 1) (fun _ _ => rfl))) pe_int (nomark _))), ?_⟩
    refine ⟨_, rfl, _, rfl, pw, powV, _, _, rfl, rfl, T.pw _, pow_at hi, _, _, rfl, rfl, rfl, ?_⟩
    have e : (!decide (V.int (Builtin.bitAnd (r : Int) ((2 ^ i : Nat) : Int)) = V.int 0)) = Kzi1.bit r i := by
      rw [bitAnd_pp (Int.natCast_nonneg _) (Int.natCast_nonneg _), Int.toNat_natCast, Int.toNat_natCast, ← and_pow]
      by_cases c : r &&& 2 ^ i = 0
      · rw [c]
        rfl
      · have c2 : ¬ V.int (((r &&& 2 ^ i : Nat)) : Int) = V.int 0 := fun z => by
          have z2 := V.int.inj z
          omega
        rw [decide_eq_false c2, bne_iff_ne.mpr c]
        rfl
    show Q (V.bl (!decide (V.int (Builtin.bitAnd (r : Int) ((2 ^ i : Nat) : Int)) = V.int 0))) H
    rw [e]
    exact q
theorem sc_same_answer : FnScope ["x", "y", "q"] ["x", "y", "q"] (defScope s_same_answer) := ⟨rfl, rfl, rfl, by decide +kernel, rfl, by decide +kernel, by decide +kernel⟩
theorem ok_same_answer {f f1 : Addr} {fd fd1 : FuncData} (D : Df K mg "same_answer" s_same_answer ["x", "y", "q"] f fd) (T : Txt K mg pw) (D1 : Df K mg "says_yes" s_says_yes ["row", "q"] f1 fd1) : FnOk P w K mg base CX0 2 f fd ["x", "y", "q"] spSame := by
  have G1 : FnOk P w K mg base CX0 1 f1 fd1 ["row", "q"] spSays := ok_says_yes D1 T
  refine D.fn.ok sc_same_answer (fun vs H Q E h => ?_) (fun cdv A outer s H vs Q E hr h => ?_)
  · obtain ⟨x, y, i, rfl, _⟩ := h
    rfl
  · obtain ⟨x, y, i, rfl, hi, q⟩ := h
    refine ⟨_, pss_one (ps_ret (pe_cmpR op_eq (pe_call G1 hr rfl D1.g D1.fn.kp D1.b .nil pass0 (pa_cons (pv 0) (pa_cons (pv 2) pa_nil))) (pe_call G1 hr rfl D1.g D1.fn.kp D1.b .nil pass0 (pa_cons (pv 1) (pa_cons (pv 2) pa_nil))) (nomark _))), ?_⟩
    refine ⟨_, rfl, _, rfl, x, i, rfl, hi, _, rfl, _, rfl, y, i, rfl, hi, rfl, ?_⟩
    have e : decide (V.bl (Kzi1.bit x i) = V.bl (Kzi1.bit y i)) = (Kzi1.bit x i == Kzi1.bit y i) := by
      cases Kzi1.bit x i <;> cases Kzi1.bit y i <;> rfl
    show Q (V.bl (decide (V.bl (Kzi1.bit x i) = V.bl (Kzi1.bit y i)))) H
    rw [e]
    exact q
theorem sc_some_row_has_both : FnScope ["ok", "r", "q", "p", "row"] ["ok", "r", "q", "p"] (defScope s_some_row_has_both) := ⟨rfl, rfl, rfl, by decide +kernel, rfl, by decide +kernel, by decide +kernel⟩
theorem ok_some_row_has_both {f f1 f2 : Addr} {fd fd1 fd2 : FuncData} (D : Df K mg "some_row_has_both" s_some_row_has_both ["ok", "r", "q", "p"] f fd) (T : Txt K mg pw) (D1 : Df K mg "says_yes" s_says_yes ["row", "q"] f1 fd1) (D2 : Df K mg "same_answer" s_same_answer ["x", "y", "q"] f2 fd2) :
    FnOk P w K mg base CX0 3 f fd ["ok", "r", "q", "p"] (spBoth K) := by
  have G2 : FnOk P w K mg base CX0 2 f2 fd2 ["x", "y", "q"] spSame := ok_same_answer D2 T D1
  refine D.fn.ok sc_some_row_has_both (fun vs H Q E h => ?_) (fun cdv A outer s H vs Q E hr h => ?_)
  · obtain ⟨a, ok, r, i, j, rfl, _⟩ := h
    rfl
  · obtain ⟨a, ok, r, i, j, rfl, hS, hi, hj, q⟩ := h
    refine ⟨_, pss_cons (ps_for PassesOwn.never rfl (pi_list (pv 0)) (pg_name (i := 4) sc_some_row_has_both.nd rfl (Or.inl rfl))
        (pss_one (ps_if (PW.pt (pw_and (pt_val (pe_call G2 hr rfl D2.g D2.fn.kp D2.b .nil pass0 (pa_cons (pv 4) (pa_cons (pv 1) (pa_cons (pv 2) pa_nil)))))
          (pw_and1 (pt_val (pe_call G2 hr rfl D2.g D2.fn.kp D2.b .nil pass0 (pa_cons (pv 4) (pa_cons (pv 1) (pa_cons (pv 3) pa_nil)))))))) (pss_one (ps_ret pe_bl)) pss_nil)))
      (pss_one (ps_ret pe_bl)), ?_⟩
    refine ⟨_, rfl, a, rfl, ⟨_, hS⟩, for_list (K := K) (a := a) (xs := ok.map nV) (fun n σ H' => ∃ y : Option V, σ = [some (.ref a), some (nV r), some (nV i), some (nV j), y] ∧ H' = H ∧ (ok.take n).any (fun x => Kzi1.bit x i == Kzi1.bit r i && Kzi1.bit x j == Kzi1.bit r j) = false)
      ⟨none, rfl, rfl, rfl⟩ (fun _ σ H' _ ⟨_, _, e, _⟩ => by rw [e]; exact hS) ?_ ?_⟩
    · rintro n y σ H' hn ⟨y0, rfl, rfl, hp⟩
      obtain ⟨z, hz, rfl⟩ := at_nV hn
      refine ⟨_, rfl, _, rfl, _, rfl, z, r, i, rfl, hi, _, rfl, ?_⟩
      cases c1 : (Kzi1.bit z i == Kzi1.bit r i) with
      | false =>
        refine iteF ?_
        refine iteF ?_
        exact ⟨_, rfl, rfl, any_take hz hp (by rw [c1]; rfl)⟩
      | true =>
        refine iteT ?_
        refine ⟨_, rfl, _, rfl, _, rfl, z, r, j, rfl, hj, _, rfl, ?_⟩
        cases c2 : (Kzi1.bit z j == Kzi1.bit r j) with
        | false =>
          refine iteF ?_
          exact ⟨_, rfl, rfl, any_take hz hp (by rw [c1, c2]; rfl)⟩
        | true =>
          refine iteT ?_
          have e : bothB ok r i j = true := any_yes hz (by rw [c1, c2]; rfl)
          rw [e] at q
          exact q
    · rintro σ H' ⟨y, rfl, rfl, hp⟩
      rw [List.length_map, List.take_length] at hp
      have e : bothB ok r i j = false := hp
      rw [e] at q
      exact q
theorem sc_is_there_in_pairs : FnScope ["m", "r", "ok", "q", "p"] ["m", "r", "ok"] (defScope s_is_there_in_pairs) := ⟨rfl, rfl, rfl, by decide +kernel, rfl, by decide +kernel, by decide +kernel⟩
theorem ok_is_there_in_pairs {f f1 f2 f3 : Addr} {fd fd1 fd2 fd3 : FuncData} (D : Df K mg "is_there_in_pairs" s_is_there_in_pairs ["m", "r", "ok"] f fd) (T : Txt K mg pw) (D1 : Df K mg "says_yes" s_says_yes ["row", "q"] f1 fd1) (D2 : Df K mg "same_answer" s_same_answer ["x", "y", "q"] f2 fd2)
    (D3 : Df K mg "some_row_has_both" s_some_row_has_both ["ok", "r", "q", "p"] f3 fd3) : FnOk P w K mg base CX0 4 f fd ["m", "r", "ok"] (spIn K) := by
  have G3 : FnOk P w K mg base CX0 3 f3 fd3 ["ok", "r", "q", "p"] (spBoth K) := ok_some_row_has_both D3 T D1 D2
  refine D.fn.ok sc_is_there_in_pairs (fun vs H Q E h => ?_) (fun cdv A outer s H vs Q E hr h => ?_)
  · obtain ⟨m, r, a, ok, rfl, _⟩ := h
    rfl
  · obtain ⟨m, r, a, ok, rfl, hS, hm, q⟩ := h
    refine ⟨_, pss_cons (ps_for PassesOwn.never rfl (pi_range1 rfl T.range (pa_cons (pv 0) pa_nil)) (pg_name (i := 3) sc_is_there_in_pairs.nd rfl (Or.inl rfl))
        (pss_one (ps_for PassesOwn.never rfl (pi_range2 rfl T.range (pa_cons (pv 3) (pa_cons (pv 0) pa_nil))) (pg_name (i := 4) sc_is_there_in_pairs.nd rfl (Or.inl rfl))
          (pss_one (ps_if (pt_not (pt_val (pe_call G3 hr rfl D3.g D3.fn.kp D3.b .nil pass0 (pa_cons (pv 2) (pa_cons (pv 1) (pa_cons (pv 3) (pa_cons (pv 4) pa_nil))))))) (pss_one (ps_ret pe_bl)) pss_nil)))))
      (pss_one (ps_ret pe_bl)), ?_⟩
    rw [pairs_half] at q
    refine ⟨_, rfl, (m : Int), rfl, by omega, by omega, for_range (lo := 0) (n := (m : Int).toNat) (fun i σ H' => ∃ y1 y2 : Option V, σ = [some (nV m), some (nV r), some (.ref a), y1, y2] ∧ H' = H ∧ (List.range i).all (rowB m ok r) = true)
      ⟨none, none, rfl, rfl, rfl⟩ ?_ ?_⟩
    · rintro i σ H' hi ⟨y1, y2, rfl, rfl, w1⟩
      have hi2 : i < m := by
        rw [Int.toNat_natCast] at hi
        exact hi
      have ez : (0 : Int) + (i : Int) = (i : Int) := Int.zero_add _
      rw [ez]
      refine ⟨_, rfl, _, rfl, (i : Int), (m : Int), rfl, ⟨by omega, by omega, by omega, by omega⟩, for_range (lo := (i : Int)) (n := ((m : Int) - (i : Int)).toNat)
        (fun j σ H2 => ∃ y2 : Option V, σ = [some (nV m), some (nV r), some (.ref a), some (nV i), y2] ∧ H2 = H' ∧ (List.range j).all (fun k => bothB ok r i (i + k)) = true) ⟨y2, rfl, rfl, rfl⟩ ?_ ?_⟩
      · rintro j σ H2 hj ⟨y2, rfl, rfl, w2⟩
        have hj2 : i + j < m := by omega
        have ey : (i : Int) + (j : Int) = ((i + j : Nat) : Int) := by omega
        rw [ey]
        refine ⟨_, rfl, _, rfl, _, rfl, _, rfl, a, ok, r, i, i + j, rfl, hS, by omega, by omega, _, rfl, ?_⟩
        cases c : bothB ok r i (i + j) with
        | true =>
          refine iteF ?_
          exact ⟨_, rfl, rfl, by rw [all_range, w2, c]; rfl⟩
        | false =>
          refine iteT ?_
          have e : (List.range m).all (rowB m ok r) = false := all_range_no hi2 (all_range_no (by omega : j < m - i) c)
          rw [e] at q
          exact q
      · rintro σ H2 ⟨y2, rfl, rfl, w2⟩
        have e : ((m : Int) - (i : Int)).toNat = m - i := by omega
        rw [e] at w2
        have e2 : rowB m ok r i = true := w2
        exact ⟨_, _, rfl, rfl, by rw [all_range, w1, e2]; rfl⟩
    · rintro σ H' ⟨y1, y2, rfl, rfl, w1⟩
      rw [Int.toNat_natCast] at w1
      rw [w1] at q
      exact q
theorem sc_pairs : FnScope ["m", "r", "ok"] ["m", "r", "ok"] (defScope s_pairs) := ⟨rfl, rfl, rfl, by decide +kernel, rfl, by decide +kernel, by decide +kernel⟩
theorem ok_pairs {f fp fi : Addr} {fd fdp fdi : FuncData} (D : Df K mg "pairs" s_pairs ["m", "r", "ok"] f fd) (T : Txt K mg pw) (DP : Df K mg "row_and_rules_allowed" s_row_and_rules_allowed ["m", "r", "ok"] fp fdp) (GP : FnOk P w K mg base CX0 4 fp fdp ["m", "r", "ok"] (spRowRules K))
    (DI : Df K mg "is_there_in_pairs" s_is_there_in_pairs ["m", "r", "ok"] fi fdi) (GI : FnOk P w K mg base CX0 4 fi fdi ["m", "r", "ok"] (spIn K)) : FnOk P w K mg base CX0 5 f fd ["m", "r", "ok"] (spPairs K) := by
  obtain ⟨tf, hf⟩ := T.rf
  refine D.fn.ok sc_pairs (fun vs H Q E h => ?_) (fun cdv A outer s H vs Q E hr h => ?_)
  · obtain ⟨m, r, a, ok, rfl, _⟩ := h
    rfl
  · obtain ⟨m, r, a, ok, rfl, hS, k⟩ := h
    refine ⟨_, pss_cons (ps_if (pt_not (pt_val (pe_call GP hr rfl DP.g DP.fn.kp DP.b .nil pass0 (pa_cons (pv 0) (pa_cons (pv 1) (pa_cons (pv 2) pa_nil)))))) (pss_one (ps_ret (pe_lst (pa_cons (pe_glob (v := .int (-22)) rfl hf ⟨_, rfl⟩) pa_nil)))) pss_nil)
      (pss_one (ps_ret (pe_lst (pa_cons (pe_ifExp (pt_val (pe_call GI hr rfl DI.g DI.fn.kp DI.b .nil pass0 (pa_cons (pv 0) (pa_cons (pv 1) (pa_cons (pv 2) pa_nil))))) pe_int pe_int) pa_nil)))), ?_⟩
    refine ⟨_, rfl, _, rfl, _, rfl, m, r, a, ok, rfl, hS, _, rfl, ?_⟩
    cases c : rowRulesB m r ok with
    | false =>
      refine iteT ?_
      refine ⟨by show 1 ≤ sizeLine; decide, fun p hp => k _ p ?_⟩
      rw [upd_same, resPairs_no c]
      rfl
    | true =>
      refine iteF ?_
      have hR : rulesOk m ok = true := by
        unfold rowRulesB at c
        rw [Bool.and_eq_true] at c
        exact c.1
      refine ⟨_, rfl, _, rfl, _, rfl, m, r, a, ok, rfl, hS, (rulesOk_m hR).2, _, rfl, ?_⟩
      cases c2 : Kzi1.pairs m ok r with
      | true =>
        refine iteT ?_
        refine ⟨by show 1 ≤ sizeLine; decide, fun p hp => k _ p ?_⟩
        rw [upd_same, resPairs_yes c, if_pos c2]
        rfl
      | false =>
        refine iteF ?_
        refine ⟨by show 1 ≤ sizeLine; decide, fun p hp => k _ p ?_⟩
        rw [upd_same, resPairs_yes c, if_neg (by rw [c2]; exact Bool.false_ne_true)]
        rfl
end
theorem all_mk {P : Program} {w : World} {K : PySem.W.Frag} {h : Heap} {mg : Str → Option Value} {fa pw f1 f2 f3 f4 f5 f6 f7 f8 f9 f10 : Addr} (X : K.In h) (G : h.Ns mainGlobals mg) (hfa : mg "pairs" = some (.ref fa))
    {odp : Option Addr} {its : Array Value} {np : Nat} {slp : Array (Option Value)} {t0 t1 : Tok}
    {od1 an1 od2 an2 od3 an3 od4 an4 od5 an5 od6 an6 od7 an7 od8 an8 od9 an9 od10 an10 : Option Addr} {sl1 sl2 sl3 sl4 sl5 sl6 sl7 sl8 sl9 sl10 : Array (Option Value)} {oc1 kV1 dc1 pm1 cd1 ct1 oc2 kV2 dc2 pm2 cd2 ct2 oc3 kV3 dc3 pm3 cd3 ct3 oc4 kV4 dc4 pm4 cd4 ct4 oc5 kV5 dc5 pm5 cd5 ct5 oc6 kV6 dc6 pm6 cd6 ct6 oc7 kV7 dc7 pm7 cd7 ct7 oc8 kV8 dc8 pm8 cd8 ct8 oc9 kV9 dc9 pm9 cd9 ct9 oc10 kV10 dc10 pm10 cd10 ct10 : Value}
    (a1 : PySem.W.nsIn K mainGlobals "is_number" = some (some (.ref f1))) (l1 : K.lookup f1 = some ⟨oc1, od1, .func (PySem.W.fnOf "is_number" "is_number" (defArgs s_is_number) (defBody s_is_number) (defScope s_is_number) .none kV1 dc1 pm1 an1 cd1 ct1), sl1⟩) (c1 : PySem.W.codeIn K cd1 "is_number" = true) (k1 : PySem.W.keepIn K (.ref f1) = true)
    (a2 : PySem.W.nsIn K mainGlobals "is_row" = some (some (.ref f2))) (l2 : K.lookup f2 = some ⟨oc2, od2, .func (PySem.W.fnOf "is_row" "is_row" (defArgs s_is_row) (defBody s_is_row) (defScope s_is_row) .none kV2 dc2 pm2 an2 cd2 ct2), sl2⟩) (c2 : PySem.W.codeIn K cd2 "is_row" = true) (k2 : PySem.W.keepIn K (.ref f2) = true)
    (a3 : PySem.W.nsIn K mainGlobals "questions_allowed" = some (some (.ref f3))) (l3 : K.lookup f3 = some ⟨oc3, od3, .func (PySem.W.fnOf "questions_allowed" "questions_allowed" (defArgs s_questions_allowed) (defBody s_questions_allowed) (defScope s_questions_allowed) .none kV3 dc3 pm3 an3 cd3 ct3), sl3⟩) (c3 : PySem.W.codeIn K cd3 "questions_allowed" = true) (k3 : PySem.W.keepIn K (.ref f3) = true)
    (a4 : PySem.W.nsIn K mainGlobals "rules_allowed" = some (some (.ref f4))) (l4 : K.lookup f4 = some ⟨oc4, od4, .func (PySem.W.fnOf "rules_allowed" "rules_allowed" (defArgs s_rules_allowed) (defBody s_rules_allowed) (defScope s_rules_allowed) .none kV4 dc4 pm4 an4 cd4 ct4), sl4⟩) (c4 : PySem.W.codeIn K cd4 "rules_allowed" = true) (k4 : PySem.W.keepIn K (.ref f4) = true)
    (a5 : PySem.W.nsIn K mainGlobals "row_and_rules_allowed" = some (some (.ref f5))) (l5 : K.lookup f5 = some ⟨oc5, od5, .func (PySem.W.fnOf "row_and_rules_allowed" "row_and_rules_allowed" (defArgs s_row_and_rules_allowed) (defBody s_row_and_rules_allowed) (defScope s_row_and_rules_allowed) .none kV5 dc5 pm5 an5 cd5 ct5), sl5⟩) (c5 : PySem.W.codeIn K cd5 "row_and_rules_allowed" = true) (k5 : PySem.W.keepIn K (.ref f5) = true)
    (a6 : PySem.W.nsIn K mainGlobals "says_yes" = some (some (.ref f6))) (l6 : K.lookup f6 = some ⟨oc6, od6, .func (PySem.W.fnOf "says_yes" "says_yes" (defArgs s_says_yes) (defBody s_says_yes) (defScope s_says_yes) .none kV6 dc6 pm6 an6 cd6 ct6), sl6⟩) (c6 : PySem.W.codeIn K cd6 "says_yes" = true) (k6 : PySem.W.keepIn K (.ref f6) = true)
    (a7 : PySem.W.nsIn K mainGlobals "same_answer" = some (some (.ref f7))) (l7 : K.lookup f7 = some ⟨oc7, od7, .func (PySem.W.fnOf "same_answer" "same_answer" (defArgs s_same_answer) (defBody s_same_answer) (defScope s_same_answer) .none kV7 dc7 pm7 an7 cd7 ct7), sl7⟩) (c7 : PySem.W.codeIn K cd7 "same_answer" = true) (k7 : PySem.W.keepIn K (.ref f7) = true)
    (a8 : PySem.W.nsIn K mainGlobals "some_row_has_both" = some (some (.ref f8))) (l8 : K.lookup f8 = some ⟨oc8, od8, .func (PySem.W.fnOf "some_row_has_both" "some_row_has_both" (defArgs s_some_row_has_both) (defBody s_some_row_has_both) (defScope s_some_row_has_both) .none kV8 dc8 pm8 an8 cd8 ct8), sl8⟩) (c8 : PySem.W.codeIn K cd8 "some_row_has_both" = true) (k8 : PySem.W.keepIn K (.ref f8) = true)
    (a9 : PySem.W.nsIn K mainGlobals "is_there_in_pairs" = some (some (.ref f9))) (l9 : K.lookup f9 = some ⟨oc9, od9, .func (PySem.W.fnOf "is_there_in_pairs" "is_there_in_pairs" (defArgs s_is_there_in_pairs) (defBody s_is_there_in_pairs) (defScope s_is_there_in_pairs) .none kV9 dc9 pm9 an9 cd9 ct9), sl9⟩) (c9 : PySem.W.codeIn K cd9 "is_there_in_pairs" = true) (k9 : PySem.W.keepIn K (.ref f9) = true)
    (a10 : PySem.W.nsIn K mainGlobals "pairs" = some (some (.ref f10))) (l10 : K.lookup f10 = some ⟨oc10, od10, .func (PySem.W.fnOf "pairs" "pairs" (defArgs s_pairs) (defBody s_pairs) (defScope s_pairs) .none kV10 dc10 pm10 an10 cd10 ct10), sl10⟩) (c10 : PySem.W.codeIn K cd10 "pairs" = true) (k10 : PySem.W.keepIn K (.ref f10) = true)
    (z0 : PySem.W.nsIn K mainGlobals "isinstance" = some none)    (z1 : PySem.W.nsIn K mainGlobals "int" = some none)    (z2 : PySem.W.nsIn K mainGlobals "bool" = some none)    (z3 : PySem.W.nsIn K mainGlobals "list" = some none)    (z4 : PySem.W.nsIn K mainGlobals "len" = some none)    (z5 : PySem.W.nsIn K mainGlobals "range" = some none)
    (n0 : PySem.W.nsIn K mainGlobals "MOST_QUESTIONS" = some (some (.int 5 t0)))    (n1 : PySem.W.nsIn K mainGlobals "REFUSED" = some (some (.int (-22) t1)))
    (pp : PySem.W.nsIn K mainGlobals "POWERS" = some (some (.ref pw))) (lp : K.lookup pw = some ⟨.type "tuple", odp, .seq its np, slp⟩) (vp : Vals powV its.toList) (zp : its.size ≤ sizeLine) :
    ∃ fd : FuncData, (∀ (s : Shared) (us : List Value), us.length = (["m", "r", "ok"] : List Str).length → BindsTo s fd ⟨us, []⟩ ((["m", "r", "ok"] : List Str).zip us)) ∧ ∀ base : Heap, K.In base → base.Ns mainGlobals mg → FnOk P w K mg base CX0 5 fa fd ["m", "r", "ok"] (spPairs K) := by
  have e := hfa.symm.trans (PySem.W.mg_of X G a10)
  cases e
  have T : Txt K mg pw := { isi := PySem.W.mg_none_of X G z0, int := PySem.W.mg_none_of X G z1, bool := PySem.W.mg_none_of X G z2, list := PySem.W.mg_none_of X G z3, len := PySem.W.mg_none_of X G z4, range := PySem.W.mg_none_of X G z5, mq := ⟨_, PySem.W.mg_of X G n0⟩, rf := ⟨_, PySem.W.mg_of X G n1⟩, gp := PySem.W.mg_of X G pp, pw := fun H => .inr ⟨_, its, np, lp, rfl, rfl, zp, vp⟩ }
  have F1 := fun_mk (st := s_is_number) l1 c1 k1
  have D1 : Df K mg "is_number" s_is_number ["x"] _ _ := ⟨F1, F1.binds (ps := ["x"]) fun _ _ _ _ _ _ us hl => match us, hl with | [_], _ => rfl, PySem.W.mg_of X G a1⟩
  have F2 := fun_mk (st := s_is_row) l2 c2 k2
  have D2 : Df K mg "is_row" s_is_row ["m", "x"] _ _ := ⟨F2, F2.binds (ps := ["m", "x"]) fun _ _ _ _ _ _ us hl => match us, hl with | [_, _], _ => rfl, PySem.W.mg_of X G a2⟩
  have F3 := fun_mk (st := s_questions_allowed) l3 c3 k3
  have D3 : Df K mg "questions_allowed" s_questions_allowed ["m"] _ _ := ⟨F3, F3.binds (ps := ["m"]) fun _ _ _ _ _ _ us hl => match us, hl with | [_], _ => rfl, PySem.W.mg_of X G a3⟩
  have F4 := fun_mk (st := s_rules_allowed) l4 c4 k4
  have D4 : Df K mg "rules_allowed" s_rules_allowed ["m", "ok"] _ _ := ⟨F4, F4.binds (ps := ["m", "ok"]) fun _ _ _ _ _ _ us hl => match us, hl with | [_, _], _ => rfl, PySem.W.mg_of X G a4⟩
  have F5 := fun_mk (st := s_row_and_rules_allowed) l5 c5 k5
  have D5 : Df K mg "row_and_rules_allowed" s_row_and_rules_allowed ["m", "r", "ok"] _ _ := ⟨F5, F5.binds (ps := ["m", "r", "ok"]) fun _ _ _ _ _ _ us hl => match us, hl with | [_, _, _], _ => rfl, PySem.W.mg_of X G a5⟩
  have F6 := fun_mk (st := s_says_yes) l6 c6 k6
  have D6 : Df K mg "says_yes" s_says_yes ["row", "q"] _ _ := ⟨F6, F6.binds (ps := ["row", "q"]) fun _ _ _ _ _ _ us hl => match us, hl with | [_, _], _ => rfl, PySem.W.mg_of X G a6⟩
  have F7 := fun_mk (st := s_same_answer) l7 c7 k7
  have D7 : Df K mg "same_answer" s_same_answer ["x", "y", "q"] _ _ := ⟨F7, F7.binds (ps := ["x", "y", "q"]) fun _ _ _ _ _ _ us hl => match us, hl with | [_, _, _], _ => rfl, PySem.W.mg_of X G a7⟩
  have F8 := fun_mk (st := s_some_row_has_both) l8 c8 k8
  have D8 : Df K mg "some_row_has_both" s_some_row_has_both ["ok", "r", "q", "p"] _ _ := ⟨F8, F8.binds (ps := ["ok", "r", "q", "p"]) fun _ _ _ _ _ _ us hl => match us, hl with | [_, _, _, _], _ => rfl, PySem.W.mg_of X G a8⟩
  have F9 := fun_mk (st := s_is_there_in_pairs) l9 c9 k9
  have D9 : Df K mg "is_there_in_pairs" s_is_there_in_pairs ["m", "r", "ok"] _ _ := ⟨F9, F9.binds (ps := ["m", "r", "ok"]) fun _ _ _ _ _ _ us hl => match us, hl with | [_, _, _], _ => rfl, PySem.W.mg_of X G a9⟩
  have F10 := fun_mk (st := s_pairs) l10 c10 k10
  have D10 : Df K mg "pairs" s_pairs ["m", "r", "ok"] _ _ := ⟨F10, F10.binds (ps := ["m", "r", "ok"]) fun _ _ _ _ _ _ us hl => match us, hl with | [_, _, _], _ => rfl, PySem.W.mg_of X G a10⟩
  exact ⟨_, fun s us hu => match us, hu with | [_, _, _], _ => .of_eq rfl, fun base _ _ => ok_pairs D10 T D5 (ok_row_and_rules_allowed D5 T D1 D2 D3 D4) D9 (ok_is_there_in_pairs D9 T D6 D7 D8)⟩
end Maj
open PySem PySem.W PyProof.Rows
set_option maxRecDepth 100000 in
set_option maxHeartbeats 8000000 in
theorem PySem.Challenge.cw_majorityrows_s07_pairs_holds : PySem.Challenge.rw_majorityrows_s07_pairs.Holds := by
  w_on; k_headS; (case hw => exact ⟨[.int 0, .int 0, .list []], by decide +kernel, by decide +kernel⟩)
  k_fillS
  refine L2.walk_specK (r := PySem.Challenge.rw_majorityrows_s07_pairs) (k := 5) (CX := L2.CX0) (ps := ["m", "r", "ok"]) (sp := Maj.spPairs) (by decide +kernel) rfl rfl ⟨rfl, by decide, by decide⟩ (fun w h Y => PySem.W.kIn_of Y) ?F ?S (fun _ _ _ _ z => z)
  case F =>
    intro w mg fa h Y KX G hmg
    refine' Maj.all_mk KX G hmg ?a1 ?l1 ?c1 ?k1 ?a2 ?l2 ?c2 ?k2 ?a3 ?l3 ?c3 ?k3 ?a4 ?l4 ?c4 ?k4 ?a5 ?l5 ?c5 ?k5 ?a6 ?l6 ?c6 ?k6 ?a7 ?l7 ?c7 ?k7 ?a8 ?l8 ?c8 ?k8 ?a9 ?l9 ?c9 ?k9 ?a10 ?l10 ?c10 ?k10 ?z0 ?z1 ?z2 ?z3 ?z4 ?z5 ?n0 ?n1 ?pp ?lp ?vp ?zp
    (case a1 => k_is)
    (case l1 => k_is)
    (case c1 => k_is)
    (case k1 => k_is)
    (case a2 => k_is)
    (case l2 => k_is)
    (case c2 => k_is)
    (case k2 => k_is)
    (case a3 => k_is)
    (case l3 => k_is)
    (case c3 => k_is)
    (case k3 => k_is)
    (case a4 => k_is)
    (case l4 => k_is)
    (case c4 => k_is)
    (case k4 => k_is)
    (case a5 => k_is)
    (case l5 => k_is)
    (case c5 => k_is)
    (case k5 => k_is)
    (case a6 => k_is)
    (case l6 => k_is)
    (case c6 => k_is)
    (case k6 => k_is)
    (case a7 => k_is)
    (case l7 => k_is)
    (case c7 => k_is)
    (case k7 => k_is)
    (case a8 => k_is)
    (case l8 => k_is)
    (case c8 => k_is)
    (case k8 => k_is)
    (case a9 => k_is)
    (case l9 => k_is)
    (case c9 => k_is)
    (case k9 => k_is)
    (case a10 => k_is)
    (case l10 => k_is)
    (case c10 => k_is)
    (case k10 => k_is)
    (case z0 => k_is)
    (case z1 => k_is)
    (case z2 => k_is)
    (case z3 => k_is)
    (case z4 => k_is)
    (case z5 => k_is)
    (case n0 => k_is)
    (case n1 => k_is)
    (case pp => k_is)
    (case lp => k_is)
    (case vp => exact .cons ⟨_, rfl⟩ (.cons ⟨_, rfl⟩ (.cons ⟨_, rfl⟩ (.cons ⟨_, rfl⟩ (.cons ⟨_, rfl⟩ (.cons ⟨_, rfl⟩ .nil))))))
    (case zp => decide)
  case S =>
    intro K H xs a hO hwi hask hx
    have q : (Codec.inInt 0 4294967295 a.1 && (Codec.inInt 0 4294967295 a.2.1 && ((Codec.inLen 0 40 a.2.2.1 && a.2.2.1.all (Codec.inInt 0 255)) && true))) = true := hwi
    simp only [Bool.and_eq_true, List.all_eq_true] at q
    have hm : 0 ≤ a.1 := (Codec.inInt_iff.mp q.1).1
    have hn : 0 ≤ a.2.1 := (Codec.inInt_iff.mp q.2.1).1
    have hk : ∀ z ∈ a.2.2.1, 0 ≤ z := fun z hz => (Codec.inInt_iff.mp (q.2.2.1.2 z hz)).1
    cases hx with
    | cons h1 h2 =>
      cases h2 with
      | cons h2 h3 =>
        cases h3 with
        | cons h3 h4 =>
          cases h4
          cases h1
          cases h2
          cases h3 with
          | @lst pa _ _ hs ha =>
            have e1 := L2.ints_dw a.2.2.1 _ ha
            subst e1
            refine ⟨a.1.toNat, a.2.1.toNat, pa, a.2.2.1.map Int.toNat, ?_, ?_, fun H' p hp => ?_⟩
            · show [L2.V.int a.1, L2.V.int a.2.1, _] = [L2.V.int ((a.1.toNat : Nat) : Int), L2.V.int ((a.2.1.toNat : Nat) : Int), _]
              rw [Int.toNat_of_nonneg hm, Int.toNat_of_nonneg hn]
            · unfold Maj.Ls
              rw [Maj.ints_nV, ← Maj.nat_list hk]
              exact hs
            · rw [← Maj.pairs_is] at hp
              exact .lst (L2.SqL.of hp) (L2.dw_ints _)
#print axioms PySem.Challenge.cw_majorityrows_s07_pairs_holds
