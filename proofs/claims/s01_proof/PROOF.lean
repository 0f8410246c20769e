import PyProof.Rows.All
import Wide.All
import OpenK.AllK
import Wide.FinOn
import Open.SpecLaws
import KE.OsGo
import HandS.ForSpec
import HandS.Codes
import HandS.Evl
import HandS.SortKw
import PySem.Challenge.RW_gatehours_s01_answers
set_option Elab.async false
namespace GT
open Kv435
/-! Prefix sums -/
def ps (l : List Nat) (k : Nat) : Nat := (l.take k).sum
theorem ps_zero (l : List Nat) : ps l 0 = 0 := by simp [ps]
theorem ps_succ : ∀ (l : List Nat) (k : Nat), ps l (k + 1) = ps l k + l.getD k 0
  | [], k => by simp [ps]
  | a :: l, 0 => by simp [ps]
  | a :: l, k + 1 => by
    have ih := ps_succ l k
    simp only [ps, List.take_succ_cons, List.sum_cons, List.getD_cons_succ] at ih ⊢
    omega
theorem ps_mono (l : List Nat) {i j : Nat} (h : i ≤ j) : ps l i ≤ ps l j := by
  induction j with
  | zero => have : i = 0 := by omega
            subst this; exact Nat.le_refl _
  | succ j ih =>
    by_cases c : i = j + 1
    · subst c; exact Nat.le_refl _
    · have := ih (by omega)
      rw [ps_succ]; omega
theorem ps_all (l : List Nat) {k : Nat} (h : l.length ≤ k) : ps l k = l.sum := by
  simp [ps, List.take_of_length_le h]
theorem sb_ps : ∀ (l : List Nat) (s t : Nat), s ≤ t + 1 → ps l s + sumBetween l s t = ps l (t + 1) := by
  intro l s t h
  have e : t + 1 = s + (t + 1 - s) := by omega
  have : l.take (t + 1) = l.take s ++ (l.drop s).take (t + 1 - s) := by
    conv => lhs; rw [e]
    rw [List.take_add]
  simp only [ps, sumBetween]
  rw [this, List.sum_append]
theorem ps_set : ∀ (l : List Nat) (m v k : Nat), m < l.length → ps (l.set m v) k + (if m < k then l.getD m 0 else 0) = ps l k + (if m < k then v else 0)
  | [], m, v, k, h => by simp at h
  | a :: l, 0, v, 0, h => by simp [ps]
  | a :: l, 0, v, k + 1, h => by
    simp [ps]; omega
  | a :: l, m + 1, v, 0, h => by simp [ps]
  | a :: l, m + 1, v, k + 1, h => by
    have ih := ps_set l m v k (by simpa using h)
    simp only [ps, List.set_cons_succ, List.take_succ_cons, List.sum_cons, List.getD_cons_succ, Nat.add_lt_add_iff_right] at ih ⊢
    omega
theorem getD_set_self (l : List Nat) (m v : Nat) (h : m < l.length) : (l.set m v).getD m 0 = v := by
  simp [List.getD, h]
theorem getD_set_ne (l : List Nat) {m i : Nat} (v : Nat) (h : m ≠ i) : (l.set m v).getD i 0 = l.getD i 0 := by
  simp [List.getD, h]
theorem ext_ps {l r : List Nat} (hl : l.length = r.length) (h : ∀ k, ps l k = ps r k) : l = r := by
  apply List.ext_getElem hl
  intro i h1 h2
  have a := ps_succ l i
  have b := ps_succ r i
  have c := h i
  have d := h (i + 1)
  have e1 : l.getD i 0 = l[i] := by simp [List.getD, h1]
  have e2 : r.getD i 0 = r[i] := by simp [List.getD, h2]
  omega
theorem ps_gap (l : List Nat) (G : Nat) (hG : ∀ i, l.getD i 0 ≤ G) (i d : Nat) : ps l (i + d) ≤ ps l i + G * d := by
  induction d with
  | zero => simp
  | succ d ih =>
    have := ps_succ l (i + d)
    have := hG (i + d)
    rw [Nat.mul_succ, ← Nat.add_assoc]; omega
theorem ps_gap' (l : List Nat) (G : Nat) (hG : ∀ i, l.getD i 0 ≤ G) {i j : Nat} (h : i ≤ j) : ps l j ≤ ps l i + G * (j - i) := by
  have := ps_gap l G hG i (j - i)
  rwa [Nat.add_sub_of_le h] at this
theorem getD_le_of_all {l : List Nat} {G : Nat} (h : ∀ x ∈ l, x ≤ G) (i : Nat) : l.getD i 0 ≤ G := by
  by_cases c : i < l.length
  · have : l.getD i 0 = l[i] := by simp [List.getD, c]
    rw [this]; exact h _ (List.getElem_mem c)
  · have : l.getD i 0 = 0 := by simp [List.getD, List.getElem?_eq_none (by omega : l.length ≤ i)]
    omega
theorem all_of_getD {l : List Nat} {G : Nat} (h : ∀ i, l.getD i 0 ≤ G) : ∀ x ∈ l, x ≤ G := by
  intro x hx
  obtain ⟨i, hi, e⟩ := List.getElem_of_mem hx
  have := h i
  have e2 : l.getD i 0 = l[i] := by simp [List.getD, hi]
  omega
/-! Rounding up -/
theorem divideUp_le {n d x : Nat} (hd : 1 ≤ d) : divideUp n d ≤ x ↔ n ≤ d * x := by
  unfold divideUp
  rw [← Nat.lt_succ_iff, Nat.div_lt_iff_lt_mul (by omega), Nat.succ_mul, Nat.mul_comm d x]
  omega
/-! openLate -/
theorem openLate_zero_need (G fuel : Nat) (g : List Nat) (m : Nat) : openLate G fuel g m 0 = g := by
  cases fuel <;> rfl
theorem openLate_step (G fuel : Nat) (g : List Nat) (m q : Nat) (hq : q ≠ 0) :
    openLate G (fuel + 1) g m q =
      (let extra := min q (G - g.getD m 0)
       let g' := g.set m (g.getD m 0 + extra)
       if m = 0 then g' else openLate G fuel g' (m - 1) (q - extra)) := by
  cases q with
  | zero => exact absurd rfl hq
  | succ q => rfl
/-- what opening late does to the prefix sums -/
structure Late (G : Nat) (g g' : List Nat) (s T q : Nat) : Prop where
  len : g'.length = g.length
  most : ∀ i, g'.getD i 0 ≤ G
  low : ∀ k, k ≤ s → ps g' k = ps g k
  high : ∀ k, T ≤ k → ps g' k = ps g k + q
  mid : ∀ k, s < k → k < T → ps g k ≤ ps g' k ∧ (ps g' k = ps g k ∨ ps g' k + G * (T - k) = ps g T + q)
theorem openLate_late (G : Nat) : ∀ (fuel : Nat) (g : List Nat) (m q : Nat), (∀ i, g.getD i 0 ≤ G) → m < g.length → fuel ≤ m + 1 →
    q + ps g (m + 1) ≤ ps g (m + 1 - fuel) + G * fuel → Late G g (openLate G fuel g m q) (m + 1 - fuel) (m + 1) q := by
  intro fuel
  induction fuel with
  | zero =>
    intro g m q hG hm _ hq
    have q0 : q = 0 := by simp only [Nat.sub_zero, Nat.mul_zero] at hq; omega
    subst q0
    exact ⟨rfl, hG, fun _ _ => rfl, fun _ _ => rfl, fun k h1 h2 => by omega⟩
  | succ fuel ih =>
    intro g m q hG hm hf hq
    by_cases q0 : q = 0
    · subst q0
      rw [openLate_zero_need]
      exact ⟨rfl, hG, fun _ _ => rfl, fun _ _ => rfl, fun k h1 h2 => ⟨Nat.le_refl _, .inl rfl⟩⟩
    · rw [openLate_step _ _ _ _ _ q0]
      have hgm := hG m
      generalize hx : min q (G - g.getD m 0) = x
      have hset := fun k => ps_set g m (g.getD m 0 + x) k hm
      have hG' : ∀ i, (g.set m (g.getD m 0 + x)).getD i 0 ≤ G := by
        intro i
        by_cases c : m = i
        · subst c; rw [getD_set_self _ _ _ hm]; omega
        · rw [getD_set_ne _ _ c]; exact hG i
      have hl : (g.set m (g.getD m 0 + x)).length = g.length := by simp
      have hlow : ∀ k, k ≤ m → ps (g.set m (g.getD m 0 + x)) k = ps g k := by
        intro k hk
        have := hset k
        rw [if_neg (by omega), if_neg (by omega)] at this; omega
      have hhigh : ∀ k, m + 1 ≤ k → ps (g.set m (g.getD m 0 + x)) k = ps g k + x := by
        intro k hk
        have := hset k
        rw [if_pos (by omega), if_pos (by omega)] at this; omega
      simp only []
      have hs := ps_succ g m
      by_cases m0 : m = 0
      · subst m0
        rw [if_pos rfl]
        have f0 : fuel = 0 := by omega
        subst f0
        have hz := ps_zero g
        have qx : q = x := by
          simp only [Nat.zero_add, Nat.sub_self, Nat.mul_one] at hq hs
          omega
        refine ⟨hl, hG', fun k hk => hlow k (by omega), fun k hk => ?_, fun k h1 h2 => by omega⟩
        rw [hhigh k (by omega), qx]
      · rw [if_neg m0]
        have em : m - 1 + 1 = m := by omega
        have es : m + 1 - (fuel + 1) = m - fuel := by omega
        have lo1 := hlow m (Nat.le_refl _)
        have lo2 := hlow (m - fuel) (by omega)
        have gap := ps_gap' g G hG (show m - fuel ≤ m by omega)
        have ef : m - (m - fuel) = fuel := by omega
        rw [ef] at gap
        have key := ih (g.set m (g.getD m 0 + x)) (m - 1) (q - x) hG' (by omega) (by omega) (by
          rw [em, lo1, lo2]
          rw [es, Nat.mul_succ] at hq
          omega)
        rw [em] at key
        rw [es]
        refine ⟨key.len.trans hl, key.most, fun k hk => ?_, fun k hk => ?_, fun k h1 h2 => ?_⟩
        · rw [key.low k hk, hlow k (by omega)]
        · rw [key.high k (by omega), hhigh k hk]; omega
        · by_cases c : k = m
          · subst c
            rw [key.high k (Nat.le_refl _), lo1]
            refine ⟨by omega, ?_⟩
            by_cases d : q = x
            · left; omega
            · right
              have : k + 1 - k = 1 := by omega
              rw [this]; omega
          · have := key.mid k h1 (by omega)
            rw [hlow k (by omega), lo1] at this
            refine ⟨this.1, ?_⟩
            rcases this.2 with h | h
            · exact .inl h
            · by_cases d : q = x
              · left
                -- nothing was left to be opened
                have hk2 := ps_gap' g G hG (show k ≤ m by omega)
                omega
              · right
                have : m + 1 - k = (m - k) + 1 := by omega
                rw [this, Nat.mul_succ]
                omega

/-! The late schedule -/
def need (e : Entrance) (s t : Nat) : Nat := divideUp (sumBetween e.arrivals s t) e.perGate
/-- no interval is infeasible -/
def NoInf (e : Entrance) : Prop := ∀ s t, s ≤ t → t < e.minutes → sumBetween e.arrivals s t ≤ e.perGate * (e.maxGates * (t + e.maxWait + 1 - s))
structure Feas (e : Entrance) (h : List Nat) : Prop where
  len : h.length = e.scheduleLength
  most : ∀ x ∈ h, x ≤ e.maxGates
  serve : ∀ t, t < e.minutes → ∀ s, s ≤ t → sumBetween e.arrivals s t ≤ e.perGate * sumBetween h s (t + e.maxWait)
theorem isFeasible_iff (e : Entrance) (h : List Nat) : e.isFeasible h = true ↔ Feas e h := by
  unfold Entrance.isFeasible
  simp only [Bool.and_eq_true, beq_iff_eq, List.all_eq_true, decide_eq_true_eq, List.mem_range]
  constructor
  · rintro ⟨⟨a, b⟩, c⟩
    exact ⟨a, b, fun t ht s hs => c t ht s (by omega)⟩
  · rintro ⟨a, b, c⟩
    exact ⟨⟨a, b⟩, fun t ht s hs => c t ht s (by omega)⟩
theorem Feas.needed {e : Entrance} {h : List Nat} (F : Feas e h) (hp : 1 ≤ e.perGate) {s t : Nat} (hs : s ≤ t) (ht : t < e.minutes) :
    need e s t + ps h s ≤ ps h (t + e.maxWait + 1) := by
  have a := F.serve t ht s hs
  have b := (divideUp_le hp).mpr a
  have c := sb_ps h s (t + e.maxWait) (by omega)
  unfold need
  omega
theorem feas_of_needed {e : Entrance} {h : List Nat} (hp : 1 ≤ e.perGate) (hl : h.length = e.scheduleLength) (hm : ∀ x ∈ h, x ≤ e.maxGates)
    (H : ∀ s t, s ≤ t → t < e.minutes → need e s t + ps h s ≤ ps h (t + e.maxWait + 1)) : Feas e h := by
  refine ⟨hl, hm, fun t ht s hs => (divideUp_le hp).mp ?_⟩
  have a := H s t hs ht
  have c := sb_ps h s (t + e.maxWait) (by omega)
  unfold need at a
  omega
theorem Feas.noInf {e : Entrance} {h : List Nat} (F : Feas e h) : NoInf e := by
  intro s t hs ht
  refine Nat.le_trans (F.serve t ht s hs) (Nat.mul_le_mul_left _ ?_)
  have c := sb_ps h s (t + e.maxWait) (by omega)
  have d := ps_gap' h e.maxGates (getD_le_of_all F.most) (show s ≤ t + e.maxWait + 1 by omega)
  omega
theorem NoInf.needs {e : Entrance} (N : NoInf e) (hp : 1 ≤ e.perGate) {s t : Nat} (hs : s ≤ t) (ht : t < e.minutes) : need e s t ≤ e.maxGates * (t + e.maxWait + 1 - s) :=
  (divideUp_le hp).mpr (N s t hs ht)
structure Inv (e : Entrance) (t k : Nat) (g : List Nat) : Prop where
  len : g.length = e.minutes + e.maxWait
  most : ∀ i, g.getD i 0 ≤ e.maxGates
  flat : ∀ j, t + e.maxWait + 1 ≤ j → ps g j = ps g (t + e.maxWait + 1)
  least : ∀ h, Feas e h → ∀ j, ps g j ≤ ps h j
  done : ∀ s' t', s' ≤ t' → (t' < t ∨ (t' = t ∧ t < s' + k)) → need e s' t' + ps g s' ≤ ps g (t' + e.maxWait + 1)
theorem Inv.turn {e : Entrance} (hp : 1 ≤ e.perGate) (N : NoInf e) {t k : Nat} {g : List Nat} (ht : t < e.minutes) (hk : k ≤ t) (I : Inv e t k g) :
    Inv e t (k + 1) (openLate e.maxGates (t + e.maxWait + 1 - (t - k)) g (t + e.maxWait) (e.missing g t (t - k))) := by
  have hs : t - k ≤ t := Nat.sub_le _ _
  generalize hsd : t - k = s at *
  have sb := sb_ps g s (t + e.maxWait) (by omega)
  have hq : e.missing g t s = need e s t - sumBetween g s (t + e.maxWait) := rfl
  generalize hqq : e.missing g t s = q at *
  have nd := N.needs hp hs ht
  have gapT := ps_gap' g _ I.most (show s ≤ t + e.maxWait + 1 by omega)
  have mono := ps_mono g (show s ≤ t + e.maxWait + 1 by omega)
  have L := openLate_late e.maxGates (t + e.maxWait + 1 - s) g (t + e.maxWait) q I.most (by have := I.len; omega) (by omega) (by
    have e1 : t + e.maxWait + 1 - (t + e.maxWait + 1 - s) = s := by omega
    rw [e1]
    omega)
  have e1 : t + e.maxWait + 1 - (t + e.maxWait + 1 - s) = s := by omega
  rw [e1] at L
  generalize openLate e.maxGates (t + e.maxWait + 1 - s) g (t + e.maxWait) q = g' at *
  refine ⟨L.len.trans I.len, L.most, fun j hj => ?_, fun h F j => ?_, fun s' t' hs' hd => ?_⟩
  · rw [L.high j hj, L.high _ (Nat.le_refl _), I.flat j hj]
  · have a := I.least h F
    by_cases c1 : j ≤ s
    · rw [L.low j c1]; exact a j
    · have nT := F.needed hp hs ht
      by_cases c2 : t + e.maxWait + 1 ≤ j
      · rw [L.high j c2, I.flat j c2]
        have m := ps_mono h c2
        have := a j
        have := a s
        have := I.flat j c2
        omega
      · have m := L.mid j (by omega) (by omega)
        rcases m.2 with h1 | h1
        · rw [h1]; exact a j
        · by_cases q0 : q = 0
          · subst q0
            have gp := ps_gap' g _ I.most (show j ≤ t + e.maxWait + 1 by omega)
            have := a j
            omega
          · have gp := ps_gap' h _ (getD_le_of_all F.most) (show j ≤ t + e.maxWait + 1 by omega)
            have := a s
            omega
  · by_cases c : s' = s ∧ t' = t
    · obtain ⟨rfl, rfl⟩ := c
      rw [L.low _ (Nat.le_refl _), L.high _ (Nat.le_refl _)]
      omega
    · have old := I.done s' t' hs' (by omega)
      have htt : t' ≤ t := by omega
      by_cases c1 : s' ≤ s
      · rw [L.low s' c1]
        by_cases c2 : t' = t
        · subst c2
          rw [L.high _ (Nat.le_refl _)]; omega
        · by_cases c3 : t' + e.maxWait + 1 ≤ s
          · rw [L.low _ c3]; exact old
          · have := (L.mid (t' + e.maxWait + 1) (by omega) (by omega)).1
            omega
      · have ms := L.mid s' (by omega) (by omega)
        have nd' := N.needs hp hs' (by omega : t' < e.minutes)
        by_cases c2 : t' = t
        · subst c2
          rw [L.high _ (Nat.le_refl _)]
          rcases ms.2 with h1 | h1
          · omega
          · omega
        · have mt := L.mid (t' + e.maxWait + 1) (by omega) (by omega)
          rcases ms.2 with h1 | h1
          · omega
          · have gp := ps_gap' g' _ L.most (show t' + e.maxWait + 1 ≤ t + e.maxWait + 1 by omega)
            rw [L.high _ (Nat.le_refl _)] at gp
            have ed : t + e.maxWait + 1 - s' = (t' + e.maxWait + 1 - s') + (t + e.maxWait + 1 - (t' + e.maxWait + 1)) := by omega
            rw [ed, Nat.mul_add] at h1
            omega
theorem Inv.turns {e : Entrance} (hp : 1 ≤ e.perGate) (N : NoInf e) {t : Nat} (ht : t < e.minutes) {g : List Nat} (I : Inv e t 0 g) : ∀ k, k ≤ t + 1 →
    Inv e t k ((List.range k).foldl (fun gates k => openLate e.maxGates (t + e.maxWait + 1 - (t - k)) gates (t + e.maxWait) (e.missing gates t (t - k))) g) := by
  intro k
  induction k with
  | zero => intro _; exact I
  | succ k ih =>
    intro hk
    rw [List.range_succ, List.foldl_append]
    exact (ih (by omega)).turn hp N ht (by omega)
theorem Inv.serve {e : Entrance} (hp : 1 ≤ e.perGate) (N : NoInf e) {t : Nat} (ht : t < e.minutes) {g : List Nat} (I : Inv e t 0 g) : Inv e (t + 1) 0 (e.serveUntil t g) := by
  have J : Inv e t (t + 1) (e.serveUntil t g) := Inv.turns hp N ht I (t + 1) (Nat.le_refl _)
  refine ⟨J.len, J.most, fun j hj => ?_, J.least, fun s' t' hs' hd => J.done s' t' hs' (by omega)⟩
  rw [J.flat j (by omega), ← J.flat (t + 1 + e.maxWait + 1) (by omega)]
theorem Inv.all {e : Entrance} (hp : 1 ≤ e.perGate) (N : NoInf e) {g : List Nat} (I : Inv e 0 0 g) : ∀ t, t ≤ e.minutes →
    Inv e t 0 ((List.range t).foldl (fun gates t => e.serveUntil t gates) g) := by
  intro t
  induction t with
  | zero => intro _; exact I
  | succ t ih =>
    intro ht
    rw [List.range_succ, List.foldl_append]
    exact (ih (by omega)).serve hp N (by omega)
theorem ps_replicate (L k : Nat) : ps (List.replicate L 0) k = 0 := by
  simp [ps, List.take_replicate]
theorem len_pos {e : Entrance} (h : 0 < e.minutes) : e.scheduleLength = e.minutes + e.maxWait := by
  unfold Entrance.scheduleLength
  rw [if_neg (by omega)]
theorem late_inv {e : Entrance} (hp : 1 ≤ e.perGate) (N : NoInf e) (h0 : 0 < e.minutes) : Inv e e.minutes 0 e.lateSchedule := by
  refine Inv.all hp N ⟨?_, fun i => ?_, fun j _ => ?_, fun h _ j => ?_, fun s' t' _ hd => by omega⟩ _ (Nat.le_refl _)
  · simp [len_pos h0]
  · have : (List.replicate e.scheduleLength 0).getD i 0 = 0 := by
      simp [List.getD, List.getElem?_replicate]
      split <;> rfl
    omega
  · rw [ps_replicate, ps_replicate]
  · rw [ps_replicate]; exact Nat.zero_le _
/-- the specification's schedule is feasible where no interval is infeasible -/
theorem late_feas {e : Entrance} (hp : 1 ≤ e.perGate) (N : NoInf e) : Feas e e.lateSchedule := by
  by_cases h0 : 0 < e.minutes
  · have I := late_inv hp N h0
    exact feas_of_needed hp (I.len.trans (len_pos h0).symm) (all_of_getD I.most) fun s t hs ht => I.done s t hs (.inl ht)
  · have z : e.minutes = 0 := by omega
    have zl : e.scheduleLength = 0 := by unfold Entrance.scheduleLength; rw [if_pos z]
    have : e.lateSchedule = [] := by
      unfold Entrance.lateSchedule
      rw [z, zl]; rfl
    rw [this]
    exact ⟨zl.symm, fun x hx => by simp at hx, fun t ht => by omega⟩
theorem late_least {e : Entrance} (hp : 1 ≤ e.perGate) (N : NoInf e) {h : List Nat} (F : Feas e h) (k : Nat) : ps e.lateSchedule k ≤ ps h k := by
  by_cases h0 : 0 < e.minutes
  · exact (late_inv hp N h0).least h F k
  · have z : e.minutes = 0 := by omega
    have zl : e.scheduleLength = 0 := by unfold Entrance.scheduleLength; rw [if_pos z]
    have : e.lateSchedule = [] := by
      unfold Entrance.lateSchedule
      rw [z, zl]; rfl
    rw [this]
    simp [ps]
theorem possible_iff {e : Entrance} (hp : 1 ≤ e.perGate) : e.isPossible = true ↔ NoInf e := by
  unfold Entrance.isPossible
  rw [isFeasible_iff]
  exact ⟨fun F => F.noInf, late_feas hp⟩
/-- a feasible schedule whose every prefix sum is least is the specification's -/
theorem late_unique {e : Entrance} (hp : 1 ≤ e.perGate) {g : List Nat} (F : Feas e g) (least : ∀ h, Feas e h → ∀ k, ps g k ≤ ps h k) : g = e.lateSchedule := by
  have N := F.noInf
  have Fl := late_feas hp N
  refine ext_ps (F.len.trans Fl.len.symm) fun k => ?_
  have a := late_least hp N F k
  have b := least _ Fl k
  omega
theorem infInterval_none {e : Entrance} : e.infeasibleInterval = none ↔ NoInf e := by
  unfold Entrance.infeasibleInterval
  rw [List.findSome?_eq_none_iff]
  simp only [List.mem_range, Option.map_eq_none_iff, List.find?_eq_none, decide_eq_true_eq, Nat.not_lt]
  constructor
  · intro h s t hs ht
    exact h t ht s (by omega)
  · intro h t ht s hs
    exact h s t (by omega) ht
end GT
set_option Elab.async false
namespace GT
open Kv435
/-! Minute by minute, the fewest gates with which the rest can still be done -/
/-- what the gates of the minute behind g must bring, if all gates are open from then on -/
structure Few (e : Entrance) (g : List Nat) (v : Nat) : Prop where
  enough : ∀ s t, s ≤ t → t < e.minutes → s ≤ g.length → g.length ≤ t + e.maxWait →
    need e s t + ps g s ≤ ps g g.length + v + e.maxGates * (t + e.maxWait - g.length)
  tight : v = 0 ∨ ∃ s t, s ≤ t ∧ t < e.minutes ∧ s ≤ g.length ∧ g.length ≤ t + e.maxWait ∧
    need e s t + ps g s = ps g g.length + v + e.maxGates * (t + e.maxWait - g.length)
def Greedy (e : Entrance) (g : List Nat) : Prop := ∀ i, i < g.length → Few e (g.take i) (g.getD i 0)
theorem ps_take (l : List Nat) {i k : Nat} (h : k ≤ i) : ps (l.take i) k = ps l k := by
  simp [ps, List.take_take, Nat.min_eq_left h]
theorem Greedy.few {e : Entrance} {g : List Nat} (R : Greedy e g) {m : Nat} (hm : m < g.length) :
    (∀ s t, s ≤ t → t < e.minutes → s ≤ m → m ≤ t + e.maxWait → need e s t + ps g s ≤ ps g (m + 1) + e.maxGates * (t + e.maxWait - m)) ∧
    (g.getD m 0 = 0 ∨ ∃ s t, s ≤ t ∧ t < e.minutes ∧ s ≤ m ∧ m ≤ t + e.maxWait ∧ need e s t + ps g s = ps g (m + 1) + e.maxGates * (t + e.maxWait - m)) := by
  have F := R m hm
  have l : (g.take m).length = m := by simp; omega
  have sc := ps_succ g m
  refine ⟨fun s t h1 h2 h3 h4 => ?_, ?_⟩
  · have := F.enough s t h1 h2 (by omega) (by omega)
    rw [l, ps_take g h3, ps_take g (Nat.le_refl m)] at this
    omega
  · rcases F.tight with h | ⟨s, t, h1, h2, h3, h4, h5⟩
    · exact .inl h
    · right
      refine ⟨s, t, h1, h2, by omega, by omega, ?_⟩
      rw [l, ps_take g (by omega), ps_take g (Nat.le_refl m)] at h5
      omega
theorem Greedy.least {e : Entrance} (hp : 1 ≤ e.perGate) {g : List Nat} (R : Greedy e g) {h : List Nat} (F : Feas e h) : ∀ m k, k ≤ m → k ≤ g.length → ps g k ≤ ps h k := by
  intro m
  induction m with
  | zero =>
    intro k hk _
    have : k = 0 := by omega
    subst this
    rw [ps_zero, ps_zero]; exact Nat.le_refl _
  | succ m ih =>
    intro k hk hg
    by_cases c : k ≤ m
    · exact ih k c hg
    · have : k = m + 1 := by omega
      subst this
      rcases (R.few (show m < g.length by omega)).2 with z | ⟨s, t, h1, h2, h3, h4, h5⟩
      · rw [ps_succ, z]
        have := ih m (Nat.le_refl _) (by omega)
        have := ps_mono h (show m ≤ m + 1 by omega)
        omega
      · have a := F.needed hp h1 h2
        have b := ih s h3 (by omega)
        have gp := ps_gap' h _ (getD_le_of_all F.most) (show m + 1 ≤ t + e.maxWait + 1 by omega)
        have ed : t + e.maxWait + 1 - (m + 1) = t + e.maxWait - m := by omega
        rw [ed] at gp
        omega
theorem Greedy.most {e : Entrance} (hp : 1 ≤ e.perGate) (N : NoInf e) {g : List Nat} (R : Greedy e g) (m : Nat) : g.getD m 0 ≤ e.maxGates := by
  by_cases hm : m < g.length
  · have sc := ps_succ g m
    rcases (R.few hm).2 with z | ⟨s, t, h1, h2, h3, h4, h5⟩
    · omega
    · by_cases c : s = m
      · subst c
        have := N.needs hp h1 h2
        have ed : t + e.maxWait + 1 - s = (t + e.maxWait - s) + 1 := by omega
        rw [ed, Nat.mul_succ] at this
        omega
      · have := (R.few (show m - 1 < g.length by omega)).1 s t h1 h2 (by omega) (by omega)
        have e1 : m - 1 + 1 = m := by omega
        have ed : t + e.maxWait - (m - 1) = (t + e.maxWait - m) + 1 := by omega
        rw [e1, ed, Nat.mul_succ] at this
        omega
  · have : g.getD m 0 = 0 := by simp [List.getD, List.getElem?_eq_none (by omega : g.length ≤ m)]
    omega
theorem Greedy.is_late {e : Entrance} (hp : 1 ≤ e.perGate) (N : NoInf e) {g : List Nat} (hl : g.length = e.scheduleLength) (R : Greedy e g) : g = e.lateSchedule := by
  have F : Feas e g := by
    refine feas_of_needed hp hl (all_of_getD (R.most hp N)) fun s t hs ht => ?_
    have L : e.scheduleLength = e.minutes + e.maxWait := len_pos (by omega)
    have := (R.few (show t + e.maxWait < g.length by omega)).1 s t hs ht (by omega) (Nat.le_refl _)
    rw [Nat.sub_self, Nat.mul_zero] at this
    omega
  refine late_unique hp F fun h Fh k => ?_
  by_cases c : k ≤ g.length
  · exact R.least hp Fh k k (Nat.le_refl _) c
  · rw [ps_all g (by omega), ← ps_all g (Nat.le_refl _)]
    exact Nat.le_trans (R.least hp Fh _ _ (Nat.le_refl _) (Nat.le_refl _)) (ps_mono h (by omega))
theorem Greedy.nil (e : Entrance) : Greedy e [] := fun i h => by simp at h
theorem Greedy.push {e : Entrance} {g : List Nat} {v : Nat} (R : Greedy e g) (F : Few e g v) : Greedy e (g ++ [v]) := by
  intro i hi
  rw [List.length_append, List.length_singleton] at hi
  by_cases c : i < g.length
  · have a := R i c
    rw [List.take_append_of_le_length (by omega)]
    have : (g ++ [v]).getD i 0 = g.getD i 0 := by
      simp [List.getD, List.getElem?_append_left c]
    rw [this]; exact a
  · have : i = g.length := by omega
    subst this
    rw [List.take_left]
    have : (g ++ [v]).getD g.length 0 = v := by simp [List.getD]
    rw [this]; exact F
end GT
set_option Elab.async false
namespace GT
open Kv435
/-! First come first served: how many are admitted -/
structure Adm (a : List Nat) (p : Nat) (g q : List Nat) : Prop where
  step : ∀ k, k < q.length → q.getD k 0 = min (ps a (k + 1) - ps q k) (p * g.getD k 0)
theorem Adm.nil (a : List Nat) (p : Nat) (g : List Nat) : Adm a p g [] := ⟨fun k h => by simp at h⟩
theorem ps_append_le (l r : List Nat) {k : Nat} (h : k ≤ l.length) : ps (l ++ r) k = ps l k := by
  simp only [ps]
  rw [List.take_append_of_le_length h]
theorem getD_append_lt (l r : List Nat) {k : Nat} (h : k < l.length) : (l ++ r).getD k 0 = l.getD k 0 := by
  simp only [List.getD, List.getElem?_append_left h]
theorem getD_push (l : List Nat) (v : Nat) : (l ++ [v]).getD l.length 0 = v := by
  simp [List.getD]
theorem Adm.push {a : List Nat} {p : Nat} {g q : List Nat} {v : Nat} (A : Adm a p g q) (h : v = min (ps a (q.length + 1) - ps q q.length) (p * g.getD q.length 0)) : Adm a p g (q ++ [v]) := by
  refine ⟨fun k hk => ?_⟩
  rw [List.length_append, List.length_singleton] at hk
  by_cases c : k < q.length
  · rw [getD_append_lt _ _ c, ps_append_le _ _ (by omega)]
    exact A.step k c
  · have : k = q.length := by omega
    subst this
    rw [getD_push, ps_append_le _ _ (Nat.le_refl _)]
    exact h
theorem Adm.le {a : List Nat} {p : Nat} {g q : List Nat} (A : Adm a p g q) : ∀ k, ps q k ≤ ps a k
  | 0 => by simp [ps_zero]
  | k + 1 => by
    have ih := A.le k
    have h1 := ps_succ q k
    have h2 := ps_mono a (show k ≤ k + 1 by omega)
    by_cases c : k < q.length
    · have := A.step k c
      omega
    · have : q.getD k 0 = 0 := by simp [List.getD, List.getElem?_eq_none (by omega : q.length ≤ k)]
      omega
theorem Adm.uniq {a : List Nat} {p : Nat} {g q r : List Nat} (A : Adm a p g q) (B : Adm a p g r) (h : q.length = r.length) : q = r := by
  have key : ∀ k, k ≤ q.length → ps q k = ps r k := by
    intro k
    induction k with
    | zero => intro _; simp [ps_zero]
    | succ k ih =>
      intro hk
      have e := ih (by omega)
      rw [ps_succ, ps_succ, A.step k (by omega), B.step k (by omega), e]
  apply ext_ps h
  intro k
  by_cases c : k ≤ q.length
  · exact key k c
  · have e := key q.length (Nat.le_refl _)
    rw [ps_all q (show q.length ≤ k by omega), ps_all r (show r.length ≤ k by omega)]
    rw [ps_all q (Nat.le_refl _), ps_all r (show r.length ≤ q.length by omega)] at e
    exact e
theorem Adm.upper {a : List Nat} {p : Nat} {g q : List Nat} (A : Adm a p g q) (s d : Nat) : ps q (s + d) ≤ ps a s + p * (ps g (s + d) - ps g s) := by
  induction d with
  | zero =>
    have := A.le s
    simp only [Nat.add_zero, Nat.sub_self, Nat.mul_zero]
    exact this
  | succ d ih =>
    have h1 := ps_succ q (s + d)
    have h2 := ps_succ g (s + d)
    have hm := ps_mono g (show s ≤ s + d by omega)
    rw [← Nat.add_assoc]
    have e : ps g (s + d + 1) - ps g s = (ps g (s + d) - ps g s) + g.getD (s + d) 0 := by omega
    rw [e, Nat.mul_add]
    by_cases c : s + d < q.length
    · have := A.step _ c
      omega
    · have : q.getD (s + d) 0 = 0 := by simp [List.getD, List.getElem?_eq_none (by omega : q.length ≤ s + d)]
      omega
theorem Adm.tight {a : List Nat} {p : Nat} {g q : List Nat} (A : Adm a p g q) (k : Nat) (hk : k ≤ q.length) : ∃ s, s ≤ k ∧ ps q k = ps a s + p * (ps g k - ps g s) := by
  induction k with
  | zero => exact ⟨0, by omega, by simp [ps_zero]⟩
  | succ k ih =>
    obtain ⟨s, hs, e⟩ := ih (by omega)
    have h1 := ps_succ q k
    have h2 := ps_succ g k
    have hl := A.le k
    have ha := ps_mono a (show k ≤ k + 1 by omega)
    have st := A.step k (by omega)
    by_cases c : ps a (k + 1) - ps q k ≤ p * g.getD k 0
    · exact ⟨k + 1, by omega, by rw [Nat.sub_self, Nat.mul_zero]; omega⟩
    · refine ⟨s, by omega, ?_⟩
      have hm := ps_mono g (show s ≤ k from hs)
      have e2 : ps g (k + 1) - ps g s = (ps g k - ps g s) + g.getD k 0 := by omega
      rw [e2, Nat.mul_add]
      omega
theorem sb_zero (l : List Nat) (t : Nat) : sumBetween l 0 t = ps l (t + 1) := by
  have := sb_ps l 0 t (by omega)
  rw [ps_zero] at this
  omega
theorem sb_sub (l : List Nat) {s t : Nat} (h : s ≤ t + 1) : sumBetween l s t = ps l (t + 1) - ps l s := by
  have := sb_ps l s t h
  omega
theorem adm_fold (a : List Nat) (p : Nat) (g : List Nat) : ∀ k, ∃ q, ((List.range k).foldl (fun (state : Nat × List Nat) minute =>
    let waiting := state.1 + a.getD minute 0
    let served := min waiting (p * g.getD minute 0)
    (waiting - served, state.2 ++ [served])) (0, [])) = (ps a k - ps q k, q) ∧ q.length = k ∧ Adm a p g q
  | 0 => ⟨[], by simp [ps_zero], rfl, Adm.nil a p g⟩
  | k + 1 => by
    obtain ⟨q, e, l, A⟩ := adm_fold a p g k
    rw [List.range_succ, List.foldl_append, e]
    have h1 := ps_succ a k
    have hl := A.le k
    refine ⟨q ++ [min (ps a (k + 1) - ps q k) (p * g.getD k 0)], ?_, by simp [l], A.push (by rw [l])⟩
    have e1 : ∀ v, ps (q ++ [v]) (k + 1) = ps q k + v := by
      intro v
      have x := ps_succ (q ++ [v]) k
      have y := getD_push q v
      have z := ps_append_le q [v] (show k ≤ q.length by omega)
      rw [l] at y
      omega
    have e2 : ps a k - ps q k + a.getD k 0 = ps a (k + 1) - ps q k := by omega
    simp only [List.foldl_cons, List.foldl_nil, e1]
    rw [e2]
    congr 1
    omega
theorem admitted_adm (e : Entrance) (g : List Nat) : Adm e.arrivals e.perGate g (e.admitted g) ∧ (e.admitted g).length = e.scheduleLength := by
  obtain ⟨q, h, l, A⟩ := adm_fold e.arrivals e.perGate g e.scheduleLength
  have : e.admitted g = q := by
    exact congrArg Prod.snd h
  rw [this]
  exact ⟨A, l⟩
/-- everybody is let in in time, told by either of the two ways -/
theorem served_iff (e : Entrance) (g : List Nat) : (∀ s t, s ≤ t → t < e.minutes → sumBetween e.arrivals s t ≤ e.perGate * sumBetween g s (t + e.maxWait)) ↔
    ∀ t, t < e.minutes → ps e.arrivals (t + 1) ≤ ps (e.admitted g) (t + e.maxWait + 1) := by
  obtain ⟨A, L⟩ := admitted_adm e g
  constructor
  · intro h t ht
    have hL := len_pos (show 0 < e.minutes by omega)
    obtain ⟨s, hs, es⟩ := A.tight (t + e.maxWait + 1) (by omega)
    rw [es]
    by_cases c : s ≤ t
    · have := h s t c ht
      rw [sb_sub _ (by omega), sb_sub _ (by omega)] at this
      omega
    · have := ps_mono e.arrivals (show t + 1 ≤ s by omega)
      omega
  · intro h s t hs ht
    have h1 := h t ht
    have h2 := A.upper s (t + e.maxWait + 1 - s)
    rw [show s + (t + e.maxWait + 1 - s) = t + e.maxWait + 1 by omega] at h2
    rw [sb_sub _ (by omega), sb_sub _ (by omega)]
    omega
/-! the longest wait -/
def lwFind (e : Entrance) (g : List Nat) (t : Nat) : Option Nat := (List.range e.scheduleLength).find? fun m => decide (t ≤ m) && decide (sumBetween e.arrivals 0 t ≤ sumBetween (e.admitted g) 0 m)
def lwStep (e : Entrance) (g : List Nat) (longest : Option Nat) (t : Nat) : Option Nat :=
  if e.arrivals.getD t 0 = 0 then longest else match longest, lwFind e g t with
  | some w, some m => some (max w (m - t))
  | _, _ => none
def lw (e : Entrance) (g : List Nat) (t : Nat) : Option Nat := (List.range t).foldl (lwStep e g) (some 0)
theorem lwStep_eq (e : Entrance) (g : List Nat) (lo : Option Nat) (t : Nat) : lwStep e g lo t = if e.arrivals.getD t 0 = 0 then lo else match lo, lwFind e g t with
  | some w, some m => some (max w (m - t))
  | _, _ => none := rfl
theorem longestWait_lw (e : Entrance) (g : List Nat) : e.longestWait g = lw e g e.minutes := rfl
theorem lw_zero (e : Entrance) (g : List Nat) : lw e g 0 = some 0 := rfl
theorem lw_succ (e : Entrance) (g : List Nat) (t : Nat) : lw e g (t + 1) = lwStep e g (lw e g t) t := by
  simp only [lw]
  rw [List.range_succ, List.foldl_append]
  rfl
theorem lwStep_none (e : Entrance) (g : List Nat) (t : Nat) : lwStep e g none t = none := by
  rw [lwStep_eq]
  split
  · rfl
  · cases lwFind e g t <;> rfl
theorem lw_none_up (e : Entrance) (g : List Nat) {t : Nat} (h : lw e g t = none) : ∀ d, lw e g (t + d) = none
  | 0 => h
  | d + 1 => by rw [← Nat.add_assoc, lw_succ, lw_none_up e g h d, lwStep_none]
theorem lw_skip {e : Entrance} {g : List Nat} {t : Nat} (h : e.arrivals.getD t 0 = 0) : lw e g (t + 1) = lw e g t := by
  rw [lw_succ, lwStep_eq, if_pos h]
theorem lw_more {e : Entrance} {g : List Nat} {t w m : Nat} (h : ¬ e.arrivals.getD t 0 = 0) (hw : lw e g t = some w) (hm : lwFind e g t = some m) : lw e g (t + 1) = some (max w (m - t)) := by
  rw [lw_succ, lwStep_eq, if_neg h, hw, hm]
theorem lw_lost {e : Entrance} {g : List Nat} {t : Nat} (ht : t < e.minutes) (h : ¬ e.arrivals.getD t 0 = 0) (hm : lwFind e g t = none) : e.longestWait g = none := by
  have : lw e g (t + 1) = none := by
    rw [lw_succ, lwStep_eq, if_neg h, hm]
    cases lw e g t <;> rfl
  rw [longestWait_lw, show e.minutes = t + 1 + (e.minutes - (t + 1)) by omega]
  exact lw_none_up e g this _
/-- the first minute of a range at which something holds -/
theorem first_of {f : Nat → Bool} {n m : Nat} (hm : m < n) (h : f m = true) (hn : ∀ i, i < m → f i = false) : (List.range n).find? f = some m := by
  rw [List.find?_range_eq_some]
  exact ⟨h, by simp [hm], fun i hi => by simp [hn i hi]⟩
theorem first_is {f : Nat → Bool} {n m : Nat} (h : (List.range n).find? f = some m) : m < n ∧ f m = true ∧ ∀ i, i < m → f i = false := by
  rw [List.find?_range_eq_some] at h
  exact ⟨by simpa using h.2.1, h.1, fun i hi => by simpa using h.2.2 i hi⟩
theorem no_first {f : Nat → Bool} {n : Nat} : (List.range n).find? f = none ↔ ∀ i, i < n → f i = false := by
  rw [List.find?_eq_none]
  constructor
  · intro h i hi
    have := h i (List.mem_range.mpr hi)
    simpa using this
  · intro h i hi
    have := h i (List.mem_range.mp hi)
    simp [this]
theorem lwFind_iff {e : Entrance} {g : List Nat} {t m : Nat} (hm : m < e.scheduleLength) (h1 : t ≤ m) (h2 : ps e.arrivals (t + 1) ≤ ps (e.admitted g) (m + 1)) (h3 : ∀ i, t ≤ i → i < m → ¬ ps e.arrivals (t + 1) ≤ ps (e.admitted g) (i + 1)) : lwFind e g t = some m := by
  refine first_of hm ?_ fun i hi => ?_
  · simp only [sb_zero]
    rw [decide_eq_true h1, decide_eq_true h2]; rfl
  · simp only [sb_zero]
    by_cases c : t ≤ i
    · rw [decide_eq_false (h3 i c hi), Bool.and_false]
    · rw [decide_eq_false c, Bool.false_and]
theorem lwFind_no {e : Entrance} {g : List Nat} {t : Nat} (h3 : ∀ i, t ≤ i → i < e.scheduleLength → ¬ ps e.arrivals (t + 1) ≤ ps (e.admitted g) (i + 1)) : lwFind e g t = none := by
  refine no_first.mpr fun i hi => ?_
  simp only [sb_zero]
  by_cases c : t ≤ i
  · rw [decide_eq_false (h3 i c hi), Bool.and_false]
  · rw [decide_eq_false c, Bool.false_and]
theorem lwFind_is {e : Entrance} {g : List Nat} {t m : Nat} (h : lwFind e g t = some m) : m < e.scheduleLength ∧ t ≤ m ∧ ps e.arrivals (t + 1) ≤ ps (e.admitted g) (m + 1) ∧ ∀ i, t ≤ i → i < m → ¬ ps e.arrivals (t + 1) ≤ ps (e.admitted g) (i + 1) := by
  obtain ⟨a, b, c⟩ := first_is h
  simp only [sb_zero, Bool.and_eq_true, decide_eq_true_eq] at b
  refine ⟨a, b.1, b.2, fun i hi hm q => ?_⟩
  have := c i hm
  simp only [sb_zero] at this
  rw [decide_eq_true hi, decide_eq_true q] at this
  cases this
theorem lwFind_none {e : Entrance} {g : List Nat} {t : Nat} (h : lwFind e g t = none) : ∀ i, t ≤ i → i < e.scheduleLength → ¬ ps e.arrivals (t + 1) ≤ ps (e.admitted g) (i + 1) := by
  intro i hi hm q
  have := no_first.mp h i hm
  simp only [sb_zero] at this
  rw [decide_eq_true hi, decide_eq_true q] at this
  cases this
theorem lw_iff (e : Entrance) (g : List Nat) (W : Nat) : ∀ t, (∃ w, lw e g t = some w ∧ w ≤ W) ↔ ∀ i, i < t → ¬ e.arrivals.getD i 0 = 0 → ∃ m, i ≤ m ∧ m ≤ i + W ∧ m < e.scheduleLength ∧ ps e.arrivals (i + 1) ≤ ps (e.admitted g) (m + 1)
  | 0 => ⟨fun _ i h => by omega, fun _ => ⟨0, rfl, Nat.zero_le _⟩⟩
  | t + 1 => by
    have ih := lw_iff e g W t
    by_cases c : e.arrivals.getD t 0 = 0
    · rw [lw_skip c, ih]
      constructor
      · intro h i hi hn
        by_cases d : i = t
        · subst d; exact absurd c hn
        · exact h i (by omega) hn
      · intro h i hi hn
        exact h i (by omega) hn
    · constructor
      · rintro ⟨w, hw, hW⟩ i hi hn
        rw [lw_succ, lwStep_eq, if_neg c] at hw
        cases q : lw e g t with
        | none => rw [q] at hw; cases hw
        | some w0 =>
          rw [q] at hw
          cases r : lwFind e g t with
          | none => rw [r] at hw; cases hw
          | some m =>
            rw [r] at hw
            obtain rfl : max w0 (m - t) = w := by simpa using hw
            obtain ⟨a1, a2, a3, _⟩ := lwFind_is r
            by_cases d : i = t
            · subst d
              exact ⟨m, a2, by omega, a1, a3⟩
            · exact ih.mp ⟨w0, q, by omega⟩ i (by omega) hn
      · intro h
        obtain ⟨w0, q, hq⟩ := ih.mpr fun i hi hn => h i (by omega) hn
        obtain ⟨m, b1, b2, b3, b4⟩ := h t (by omega) c
        cases r : lwFind e g t with
        | none => exact absurd b4 (lwFind_none r m b1 b3)
        | some m0 =>
          obtain ⟨a1, a2, a3, a4⟩ := lwFind_is r
          have : m0 ≤ m := by
            by_cases d : m0 ≤ m
            · exact d
            · exact absurd b4 (a4 m b1 (by omega))
          exact ⟨_, lw_more c q r, by omega⟩
theorem in_time_iff (e : Entrance) (g : List Nat) : (∃ w, e.longestWait g = some w ∧ w ≤ e.maxWait) ↔ ∀ t, t < e.minutes → ps e.arrivals (t + 1) ≤ ps (e.admitted g) (t + e.maxWait + 1) := by
  rw [longestWait_lw, lw_iff]
  constructor
  · intro h t
    induction t with
    | zero =>
      intro ht
      by_cases c : e.arrivals.getD 0 0 = 0
      · have := ps_succ e.arrivals 0
        rw [ps_zero] at this
        omega
      · obtain ⟨m, b1, b2, b3, b4⟩ := h 0 ht c
        have := ps_mono (e.admitted g) (show m + 1 ≤ 0 + e.maxWait + 1 by omega)
        omega
    | succ t ih =>
      intro ht
      by_cases c : e.arrivals.getD (t + 1) 0 = 0
      · have h1 := ps_succ e.arrivals (t + 1)
        have h2 := ih (by omega)
        have h3 := ps_mono (e.admitted g) (show t + e.maxWait + 1 ≤ t + 1 + e.maxWait + 1 by omega)
        omega
      · obtain ⟨m, b1, b2, b3, b4⟩ := h (t + 1) ht c
        have := ps_mono (e.admitted g) (show m + 1 ≤ t + 1 + e.maxWait + 1 by omega)
        omega
  · intro h i hi _
    have hL := len_pos (show 0 < e.minutes by omega)
    exact ⟨i + e.maxWait, by omega, by omega, by omega, h i hi⟩
theorem feasible_iff {e : Entrance} {g : List Nat} (hl : g.length = e.scheduleLength) : e.isFeasible g = true ↔ (∃ w, e.longestWait g = some w ∧ w ≤ e.maxWait) ∧ ∀ x ∈ g, x ≤ e.maxGates := by
  rw [in_time_iff, ← served_iff]
  unfold Entrance.isFeasible
  simp only [Bool.and_eq_true, beq_iff_eq, List.all_eq_true, decide_eq_true_eq, List.mem_range]
  constructor
  · rintro ⟨⟨_, a⟩, b⟩
    exact ⟨fun s t hs ht => b t ht s (by omega), a⟩
  · rintro ⟨b, a⟩
    exact ⟨⟨hl, a⟩, fun t ht s hs => b s t (by omega) ht⟩
/-! the largest number of arrivals -/
theorem sb_set_mono (l : List Nat) (m : Nat) (hm : m < l.length) {x y : Nat} (h : y ≤ x) {s t : Nat} (hs : s ≤ t) : sumBetween (l.set m y) s t ≤ sumBetween (l.set m x) s t := by
  rw [sb_sub _ (by omega), sb_sub _ (by omega)]
  have a1 := ps_set l m x (t + 1) hm
  have a2 := ps_set l m x s hm
  have b1 := ps_set l m y (t + 1) hm
  have b2 := ps_set l m y s hm
  by_cases c : m < t + 1
  · rw [if_pos c, if_pos c] at a1 b1
    by_cases d : m < s
    · rw [if_pos d, if_pos d] at a2 b2; omega
    · rw [if_neg d, if_neg d] at a2 b2; omega
  · rw [if_neg c, if_neg c] at a1 b1
    rw [if_neg (by omega), if_neg (by omega)] at a2 b2; omega
theorem possible_mono {e : Entrance} (hp : 1 ≤ e.perGate) {m x y : Nat} (hm : m < e.minutes) (h : y ≤ x) (q : (e.withArrivals m x).isPossible = true) : (e.withArrivals m y).isPossible = true := by
  have hx := (possible_iff (e := e.withArrivals m x) hp).mp q
  refine (possible_iff (e := e.withArrivals m y) hp).mpr fun s t hs ht => ?_
  have h1 : (e.withArrivals m x).minutes = e.minutes := by simp [Entrance.withArrivals, Entrance.minutes]
  have h2 : (e.withArrivals m y).minutes = e.minutes := by simp [Entrance.withArrivals, Entrance.minutes]
  have := hx s t hs (by omega)
  exact Nat.le_trans (sb_set_mono e.arrivals m hm h hs) this
theorem filter_le (k : Nat) : ∀ n, k < n → (List.range n).filter (fun x => decide (x ≤ k)) = List.range (k + 1)
  | 0, h => by omega
  | n + 1, h => by
    rw [List.range_succ, List.filter_append]
    by_cases c : k < n
    · rw [filter_le k n c]
      have : ¬ n ≤ k := by omega
      simp [this]
    · have : n = k := by omega
      subst this
      rw [List.range_succ]
      have : (List.range n).filter (fun x => decide (x ≤ n)) = List.range n := by
        rw [List.filter_eq_self]
        intro a ha
        have := List.mem_range.mp ha
        simp; omega
      rw [this]
      simp
theorem most_arrivals {e : Entrance} (hp : 1 ≤ e.perGate) {m k : Nat} (hm : m < e.minutes) (hk : k ≤ 40) (h1 : (e.withArrivals m k).isPossible = true) (h2 : k = 40 ∨ (e.withArrivals m (k + 1)).isPossible = false) :
    (((List.range 41).filter fun x => (e.withArrivals m x).isPossible).getLast?.getD 0) = k := by
  have : (List.range 41).filter (fun x => (e.withArrivals m x).isPossible) = (List.range 41).filter (fun x => decide (x ≤ k)) := by
    apply List.filter_congr
    intro x hx
    have := List.mem_range.mp hx
    by_cases c : x ≤ k
    · rw [decide_eq_true c]
      exact possible_mono hp hm c h1
    · rw [decide_eq_false c]
      rcases h2 with h2 | h2
      · omega
      · cases q : (e.withArrivals m x).isPossible with
        | false => rfl
        | true =>
          have := possible_mono hp hm (show k + 1 ≤ x by omega) q
          rw [this] at h2; cases h2
  rw [this, filter_le k 41 (by omega), List.range_succ]
  simp
theorem set_getD_self : ∀ (l : List Nat) (m : Nat), l.set m (l.getD m 0) = l
  | [], m => rfl
  | a :: l, 0 => rfl
  | a :: l, m + 1 => by
    have := set_getD_self l m
    simp only [List.set_cons_succ, List.getD_cons_succ, this]
theorem with_same (e : Entrance) (m : Nat) : e.withArrivals m (e.arrivals.getD m 0) = e := by
  unfold Entrance.withArrivals
  rw [set_getD_self]
end GT
set_option Elab.async false
set_option linter.all false
set_option maxRecDepth 100000
set_option maxHeartbeats 4000000
namespace GW
open PySem PySem.Spec PyProof.Rows L2 Evl
/-! ### places of the text -/
def top (i : Nat) : Stmt := PySem.Challenge.pw_gatehours_s01_answers.main.body.getD i (.Pass ⟨0, 0, 0, 0⟩)
/-- per_gate_allowed(people): level 1 -/
abbrev s_per_gate_allowed : Stmt := top 7
theorem sc_per_gate_allowed : FnScope ["people"] ["people"] (defScope s_per_gate_allowed) := ⟨rfl, rfl, rfl, by decide +kernel, rfl, by decide +kernel, by decide +kernel⟩
/-- max_gates_allowed(gates): level 1 -/
abbrev s_max_gates_allowed : Stmt := top 8
theorem sc_max_gates_allowed : FnScope ["gates"] ["gates"] (defScope s_max_gates_allowed) := ⟨rfl, rfl, rfl, by decide +kernel, rfl, by decide +kernel, by decide +kernel⟩
/-- max_wait_allowed(minutes): level 1 -/
abbrev s_max_wait_allowed : Stmt := top 9
theorem sc_max_wait_allowed : FnScope ["minutes"] ["minutes"] (defScope s_max_wait_allowed) := ⟨rfl, rfl, rfl, by decide +kernel, rfl, by decide +kernel, by decide +kernel⟩
/-- arrivals_allowed(people): level 1 -/
abbrev s_arrivals_allowed : Stmt := top 10
theorem sc_arrivals_allowed : FnScope ["people"] ["people"] (defScope s_arrivals_allowed) := ⟨rfl, rfl, rfl, by decide +kernel, rfl, by decide +kernel, by decide +kernel⟩
/-- gates_allowed(gates): level 1 -/
abbrev s_gates_allowed : Stmt := top 11
theorem sc_gates_allowed : FnScope ["gates"] ["gates"] (defScope s_gates_allowed) := ⟨rfl, rfl, rfl, by decide +kernel, rfl, by decide +kernel, by decide +kernel⟩
/-- no_planner(): level 1 -/
abbrev s_no_planner : Stmt := top 13
theorem sc_no_planner : FnScope [] [] (defScope s_no_planner) := ⟨rfl, rfl, rfl, by decide +kernel, rfl, by decide +kernel, by decide +kernel⟩
/-- no_such_minute(): level 1 -/
abbrev s_no_such_minute : Stmt := top 14
theorem sc_no_such_minute : FnScope [] [] (defScope s_no_such_minute) := ⟨rfl, rfl, rfl, by decide +kernel, rfl, by decide +kernel, by decide +kernel⟩
/-- no_minutes(): level 1 -/
abbrev s_no_minutes : Stmt := top 15
theorem sc_no_minutes : FnScope [] [] (defScope s_no_minutes) := ⟨rfl, rfl, rfl, by decide +kernel, rfl, by decide +kernel, by decide +kernel⟩
/-- out_of_range(): level 1 -/
abbrev s_out_of_range : Stmt := top 16
theorem sc_out_of_range : FnScope [] [] (defScope s_out_of_range) := ⟨rfl, rfl, rfl, by decide +kernel, rfl, by decide +kernel, by decide +kernel⟩
/-- too_many_minutes(): level 1 -/
abbrev s_too_many_minutes : Stmt := top 17
theorem sc_too_many_minutes : FnScope [] [] (defScope s_too_many_minutes) := ⟨rfl, rfl, rfl, by decide +kernel, rfl, by decide +kernel, by decide +kernel⟩
/-- none_found(): level 1 -/
abbrev s_none_found : Stmt := top 18
theorem sc_none_found : FnScope [] [] (defScope s_none_found) := ⟨rfl, rfl, rfl, by decide +kernel, rfl, by decide +kernel, by decide +kernel⟩
/-- add_minute(planner, arrivals): level 2 -/
abbrev s_add_minute : Stmt := top 20
theorem sc_add_minute : FnScope ["planner", "arrivals"] ["planner", "arrivals"] (defScope s_add_minute) := ⟨rfl, rfl, rfl, by decide +kernel, rfl, by decide +kernel, by decide +kernel⟩
/-- set_arrivals(planner, minute, arrivals, previous): level 2 -/
abbrev s_set_arrivals : Stmt := top 21
theorem sc_set_arrivals : FnScope ["planner", "minute", "arrivals", "previous"] ["planner", "minute", "arrivals"] (defScope s_set_arrivals) := ⟨rfl, rfl, rfl, by decide +kernel, rfl, by decide +kernel, by decide +kernel⟩
/-- remove_last_minute(planner): level 2 -/
abbrev s_remove_last_minute : Stmt := top 22
theorem sc_remove_last_minute : FnScope ["planner"] ["planner"] (defScope s_remove_last_minute) := ⟨rfl, rfl, rfl, by decide +kernel, rfl, by decide +kernel, by decide +kernel⟩
/-- set_per_gate(planner, people, previous): level 2 -/
abbrev s_set_per_gate : Stmt := top 23
theorem sc_set_per_gate : FnScope ["planner", "people", "previous"] ["planner", "people"] (defScope s_set_per_gate) := ⟨rfl, rfl, rfl, by decide +kernel, rfl, by decide +kernel, by decide +kernel⟩
/-- set_max_gates(planner, gates, previous): level 2 -/
abbrev s_set_max_gates : Stmt := top 24
theorem sc_set_max_gates : FnScope ["planner", "gates", "previous"] ["planner", "gates"] (defScope s_set_max_gates) := ⟨rfl, rfl, rfl, by decide +kernel, rfl, by decide +kernel, by decide +kernel⟩
/-- set_max_wait(planner, minutes, previous): level 2 -/
abbrev s_set_max_wait : Stmt := top 25
theorem sc_set_max_wait : FnScope ["planner", "minutes", "previous"] ["planner", "minutes"] (defScope s_set_max_wait) := ⟨rfl, rfl, rfl, by decide +kernel, rfl, by decide +kernel, by decide +kernel⟩
/-- arrivals_between(planner, first, last): level 1 -/
abbrev s_arrivals_between : Stmt := top 27
theorem sc_arrivals_between : FnScope ["planner", "first", "last"] ["planner", "first", "last"] (defScope s_arrivals_between) := ⟨rfl, rfl, rfl, by decide +kernel, rfl, by decide +kernel, by decide +kernel⟩
/-- is_infeasible(planner, first, last, minutes): level 2 -/
abbrev s_is_infeasible : Stmt := top 28
theorem sc_is_infeasible : FnScope ["planner", "first", "last", "minutes"] ["planner", "first", "last"] (defScope s_is_infeasible) := ⟨rfl, rfl, rfl, by decide +kernel, rfl, by decide +kernel, by decide +kernel⟩
/-- earliest_infeasible_interval(planner, last, first): level 3 -/
abbrev s_earliest_infeasible_interval : Stmt := top 29
theorem sc_earliest_infeasible_interval : FnScope ["planner", "last", "first"] ["planner"] (defScope s_earliest_infeasible_interval) := ⟨rfl, rfl, rfl, by decide +kernel, rfl, by decide +kernel, by decide +kernel⟩
/-- has_feasible_schedule(planner): level 4 -/
abbrev s_has_feasible_schedule : Stmt := top 30
theorem sc_has_feasible_schedule : FnScope ["planner"] ["planner"] (defScope s_has_feasible_schedule) := ⟨rfl, rfl, rfl, by decide +kernel, rfl, by decide +kernel, by decide +kernel⟩
/-- schedule_length(planner): level 1 -/
abbrev s_schedule_length : Stmt := top 31
theorem sc_schedule_length : FnScope ["planner"] ["planner"] (defScope s_schedule_length) := ⟨rfl, rfl, rfl, by decide +kernel, rfl, by decide +kernel, by decide +kernel⟩
/-- gate_minutes_needed(planner, first, last, people): level 2 -/
abbrev s_gate_minutes_needed : Stmt := top 32
theorem sc_gate_minutes_needed : FnScope ["planner", "first", "last", "people"] ["planner", "first", "last"] (defScope s_gate_minutes_needed) := ⟨rfl, rfl, rfl, by decide +kernel, rfl, by decide +kernel, by decide +kernel⟩
/-- fewest_gates_next(planner, gates, minute, fewest, last, most_later, first, missing): level 3 -/
abbrev s_fewest_gates_next : Stmt := top 33
theorem sc_fewest_gates_next : FnScope ["planner", "gates", "minute", "fewest", "last", "most_later", "first", "missing"] ["planner", "gates"] (defScope s_fewest_gates_next) := ⟨rfl, rfl, rfl, by decide +kernel, rfl, by decide +kernel, by decide +kernel⟩
/-- find_best_schedule(planner, gates): level 4 -/
abbrev s_find_best_schedule : Stmt := top 34
theorem sc_find_best_schedule : FnScope ["planner", "gates"] ["planner"] (defScope s_find_best_schedule) := ⟨rfl, rfl, rfl, by decide +kernel, rfl, by decide +kernel, by decide +kernel⟩
/-- arrived_by(planner, minute): level 2 -/
abbrev s_arrived_by : Stmt := top 36
theorem sc_arrived_by : FnScope ["planner", "minute"] ["planner", "minute"] (defScope s_arrived_by) := ⟨rfl, rfl, rfl, by decide +kernel, rfl, by decide +kernel, by decide +kernel⟩
/-- people_admitted(planner, schedule, people, minute, queue): level 3 -/
abbrev s_people_admitted : Stmt := top 37
theorem sc_people_admitted : FnScope ["planner", "schedule", "people", "minute", "queue"] ["planner", "schedule"] (defScope s_people_admitted) := ⟨rfl, rfl, rfl, by decide +kernel, rfl, by decide +kernel, by decide +kernel⟩
/-- people_waiting(planner, schedule, people, minute): level 4 -/
abbrev s_people_waiting : Stmt := top 38
theorem sc_people_waiting : FnScope ["planner", "schedule", "people", "minute"] ["planner", "schedule"] (defScope s_people_waiting) := ⟨rfl, rfl, rfl, by decide +kernel, rfl, by decide +kernel, by decide +kernel⟩
/-- minute_of_admission(planner, people, minute, later): level 3 -/
abbrev s_minute_of_admission : Stmt := top 39
theorem sc_minute_of_admission : FnScope ["planner", "people", "minute", "later"] ["planner", "people", "minute"] (defScope s_minute_of_admission) := ⟨rfl, rfl, rfl, by decide +kernel, rfl, by decide +kernel, by decide +kernel⟩
/-- longest_waiting_time(planner, schedule, people, longest, minute, later): level 4 -/
abbrev s_longest_waiting_time : Stmt := top 40
theorem sc_longest_waiting_time : FnScope ["planner", "schedule", "people", "longest", "minute", "later"] ["planner", "schedule"] (defScope s_longest_waiting_time) := ⟨rfl, rfl, rfl, by decide +kernel, rfl, by decide +kernel, by decide +kernel⟩
/-- counted(numbers): level 1 -/
abbrev s_counted : Stmt := top 42
theorem sc_counted : FnScope ["numbers"] ["numbers"] (defScope s_counted) := ⟨rfl, rfl, rfl, by decide +kernel, rfl, by decide +kernel, by decide +kernel⟩
/-- list_arrivals(planner): level 2 -/
abbrev s_list_arrivals : Stmt := top 43
theorem sc_list_arrivals : FnScope ["planner"] ["planner"] (defScope s_list_arrivals) := ⟨rfl, rfl, rfl, by decide +kernel, rfl, by decide +kernel, by decide +kernel⟩
/-- best_schedule(planner): level 5 -/
abbrev s_best_schedule : Stmt := top 44
theorem sc_best_schedule : FnScope ["planner"] ["planner"] (defScope s_best_schedule) := ⟨rfl, rfl, rfl, by decide +kernel, rfl, by decide +kernel, by decide +kernel⟩
/-- min_gate_minutes(planner): level 5 -/
abbrev s_min_gate_minutes : Stmt := top 45
theorem sc_min_gate_minutes : FnScope ["planner"] ["planner"] (defScope s_min_gate_minutes) := ⟨rfl, rfl, rfl, by decide +kernel, rfl, by decide +kernel, by decide +kernel⟩
/-- is_possible(planner): level 5 -/
abbrev s_is_possible : Stmt := top 46
theorem sc_is_possible : FnScope ["planner"] ["planner"] (defScope s_is_possible) := ⟨rfl, rfl, rfl, by decide +kernel, rfl, by decide +kernel, by decide +kernel⟩
/-- infeasible_interval(planner, interval): level 4 -/
abbrev s_infeasible_interval : Stmt := top 47
theorem sc_infeasible_interval : FnScope ["planner", "interval"] ["planner"] (defScope s_infeasible_interval) := ⟨rfl, rfl, rfl, by decide +kernel, rfl, by decide +kernel, by decide +kernel⟩
/-- total_arrivals(planner, first, last): level 2 -/
abbrev s_total_arrivals : Stmt := top 48
theorem sc_total_arrivals : FnScope ["planner", "first", "last"] ["planner", "first", "last"] (defScope s_total_arrivals) := ⟨rfl, rfl, rfl, by decide +kernel, rfl, by decide +kernel, by decide +kernel⟩
/-- get_state(planner): level 1 -/
abbrev s_get_state : Stmt := top 49
theorem sc_get_state : FnScope ["planner"] ["planner"] (defScope s_get_state) := ⟨rfl, rfl, rfl, by decide +kernel, rfl, by decide +kernel, by decide +kernel⟩
/-- has_form(planner, schedule, gates): level 2 -/
abbrev s_has_form : Stmt := top 51
theorem sc_has_form : FnScope ["planner", "schedule", "gates"] ["planner", "schedule"] (defScope s_has_form) := ⟨rfl, rfl, rfl, by decide +kernel, rfl, by decide +kernel, by decide +kernel⟩
/-- is_feasible(planner, schedule, longest): level 5 -/
abbrev s_is_feasible : Stmt := top 52
theorem sc_is_feasible : FnScope ["planner", "schedule", "longest"] ["planner", "schedule"] (defScope s_is_feasible) := ⟨rfl, rfl, rfl, by decide +kernel, rfl, by decide +kernel, by decide +kernel⟩
/-- admitted(planner, schedule): level 4 -/
abbrev s_admitted : Stmt := top 53
theorem sc_admitted : FnScope ["planner", "schedule"] ["planner", "schedule"] (defScope s_admitted) := ⟨rfl, rfl, rfl, by decide +kernel, rfl, by decide +kernel, by decide +kernel⟩
/-- queue_lengths(planner, schedule): level 5 -/
abbrev s_queue_lengths : Stmt := top 54
theorem sc_queue_lengths : FnScope ["planner", "schedule"] ["planner", "schedule"] (defScope s_queue_lengths) := ⟨rfl, rfl, rfl, by decide +kernel, rfl, by decide +kernel, by decide +kernel⟩
/-- longest_wait(planner, schedule, longest): level 5 -/
abbrev s_longest_wait : Stmt := top 55
theorem sc_longest_wait : FnScope ["planner", "schedule", "longest"] ["planner", "schedule"] (defScope s_longest_wait) := ⟨rfl, rfl, rfl, by decide +kernel, rfl, by decide +kernel, by decide +kernel⟩
/-- another_like(planner, other): level 3 -/
abbrev s_another_like : Stmt := top 60
theorem sc_another_like : FnScope ["planner", "other"] ["planner"] (defScope s_another_like) := ⟨rfl, rfl, rfl, by decide +kernel, rfl, by decide +kernel, by decide +kernel⟩
/-- with_max_gates(planner, gates, other): level 4 -/
abbrev s_with_max_gates : Stmt := top 61
theorem sc_with_max_gates : FnScope ["planner", "gates", "other"] ["planner", "gates"] (defScope s_with_max_gates) := ⟨rfl, rfl, rfl, by decide +kernel, rfl, by decide +kernel, by decide +kernel⟩
/-- with_max_wait(planner, minutes, other): level 4 -/
abbrev s_with_max_wait : Stmt := top 62
theorem sc_with_max_wait : FnScope ["planner", "minutes", "other"] ["planner", "minutes"] (defScope s_with_max_wait) := ⟨rfl, rfl, rfl, by decide +kernel, rfl, by decide +kernel, by decide +kernel⟩
/-- with_arrivals(planner, minute, people, other): level 4 -/
abbrev s_with_arrivals : Stmt := top 63
theorem sc_with_arrivals : FnScope ["planner", "minute", "people", "other"] ["planner", "minute", "people"] (defScope s_with_arrivals) := ⟨rfl, rfl, rfl, by decide +kernel, rfl, by decide +kernel, by decide +kernel⟩
/-- min_max_gates(planner, gates): level 5 -/
abbrev s_min_max_gates : Stmt := top 64
theorem sc_min_max_gates : FnScope ["planner", "gates"] ["planner"] (defScope s_min_max_gates) := ⟨rfl, rfl, rfl, by decide +kernel, rfl, by decide +kernel, by decide +kernel⟩
/-- min_max_wait(planner, minutes): level 5 -/
abbrev s_min_max_wait : Stmt := top 65
theorem sc_min_max_wait : FnScope ["planner", "minutes"] ["planner"] (defScope s_min_max_wait) := ⟨rfl, rfl, rfl, by decide +kernel, rfl, by decide +kernel, by decide +kernel⟩
/-- gate_minutes_if_arrivals(planner, minute, people): level 6 -/
abbrev s_gate_minutes_if_arrivals : Stmt := top 66
theorem sc_gate_minutes_if_arrivals : FnScope ["planner", "minute", "people"] ["planner", "minute", "people"] (defScope s_gate_minutes_if_arrivals) := ⟨rfl, rfl, rfl, by decide +kernel, rfl, by decide +kernel, by decide +kernel⟩
/-- gate_minutes_if_max_wait(planner, minutes): level 6 -/
abbrev s_gate_minutes_if_max_wait : Stmt := top 67
theorem sc_gate_minutes_if_max_wait : FnScope ["planner", "minutes"] ["planner", "minutes"] (defScope s_gate_minutes_if_max_wait) := ⟨rfl, rfl, rfl, by decide +kernel, rfl, by decide +kernel, by decide +kernel⟩
/-- max_arrivals(planner, minute, most): level 5 -/
abbrev s_max_arrivals : Stmt := top 68
theorem sc_max_arrivals : FnScope ["planner", "minute", "most"] ["planner", "minute"] (defScope s_max_arrivals) := ⟨rfl, rfl, rfl, by decide +kernel, rfl, by decide +kernel, by decide +kernel⟩
/-- change(planner, number, arguments): level 3 -/
abbrev s_change : Stmt := top 75
theorem sc_change : FnScope ["planner", "number", "arguments"] ["planner", "number", "arguments"] (defScope s_change) := ⟨rfl, rfl, rfl, by decide +kernel, rfl, by decide +kernel, by decide +kernel⟩
/-- query(planner, number): level 6 -/
abbrev s_query : Stmt := top 76
theorem sc_query : FnScope ["planner", "number"] ["planner", "number"] (defScope s_query) := ⟨rfl, rfl, rfl, by decide +kernel, rfl, by decide +kernel, by decide +kernel⟩
/-- evaluate(planner, number, schedule): level 6 -/
abbrev s_evaluate : Stmt := top 77
theorem sc_evaluate : FnScope ["planner", "number", "schedule"] ["planner", "number", "schedule"] (defScope s_evaluate) := ⟨rfl, rfl, rfl, by decide +kernel, rfl, by decide +kernel, by decide +kernel⟩
/-- ask_what_if(planner, number, arguments): level 7 -/
abbrev s_ask_what_if : Stmt := top 78
theorem sc_ask_what_if : FnScope ["planner", "number", "arguments"] ["planner", "number", "arguments"] (defScope s_ask_what_if) := ⟨rfl, rfl, rfl, by decide +kernel, rfl, by decide +kernel, by decide +kernel⟩
/-- add_up(planner, number, arguments): level 3 -/
abbrev s_add_up : Stmt := top 79
theorem sc_add_up : FnScope ["planner", "number", "arguments"] ["planner", "number", "arguments"] (defScope s_add_up) := ⟨rfl, rfl, rfl, by decide +kernel, rfl, by decide +kernel, by decide +kernel⟩
/-- perform(session, number, arguments): level 8 -/
abbrev s_perform : Stmt := top 80
theorem sc_perform : FnScope ["session", "number", "arguments"] ["session", "number", "arguments"] (defScope s_perform) := ⟨rfl, rfl, rfl, by decide +kernel, rfl, by decide +kernel, by decide +kernel⟩
/-- has_row(number): level 1 -/
abbrev s_has_row : Stmt := top 81
theorem sc_has_row : FnScope ["number"] ["number"] (defScope s_has_row) := ⟨rfl, rfl, rfl, by decide +kernel, rfl, by decide +kernel, by decide +kernel⟩
/-- arguments_start(calls, place): level 2 -/
abbrev s_arguments_start : Stmt := top 82
theorem sc_arguments_start : FnScope ["calls", "place"] ["calls", "place"] (defScope s_arguments_start) := ⟨rfl, rfl, rfl, by decide +kernel, rfl, by decide +kernel, by decide +kernel⟩
/-- argument_count(calls, place): level 2 -/
abbrev s_argument_count : Stmt := top 83
theorem sc_argument_count : FnScope ["calls", "place"] ["calls", "place"] (defScope s_argument_count) := ⟨rfl, rfl, rfl, by decide +kernel, rfl, by decide +kernel, by decide +kernel⟩
/-- answers(calls, session, result, place, start, after, numbers): level 9 -/
abbrev s_answers : Stmt := top 84
theorem sc_answers : FnScope ["calls", "session", "result", "place", "start", "after", "numbers"] ["calls"] (defScope s_answers) := ⟨rfl, rfl, rfl, by decide +kernel, rfl, by decide +kernel, by decide +kernel⟩
/-- Planner.__init__(self, per_gate, max_gates, max_wait): level 1 -/
abbrev s_Plannerd_initd : Stmt := inClass (top 57) 0
theorem sc_Plannerd_initd : FnScope ["self", "per_gate", "max_gates", "max_wait"] ["self", "per_gate", "max_gates", "max_wait"] (defScope s_Plannerd_initd) := ⟨rfl, rfl, rfl, by decide +kernel, rfl, by decide +kernel, by decide +kernel⟩
/-- Planner.has_minute(self, minute): level 1 -/
abbrev s_Planner_has_minute : Stmt := inClass (top 57) 1
theorem sc_Planner_has_minute : FnScope ["self", "minute"] ["self", "minute"] (defScope s_Planner_has_minute) := ⟨rfl, rfl, rfl, by decide +kernel, rfl, by decide +kernel, by decide +kernel⟩
/-- Session.__init__(self): level 1 -/
abbrev s_Sessiond_initd : Stmt := inClass (top 58) 0
theorem sc_Sessiond_initd : FnScope ["self"] ["self"] (defScope s_Sessiond_initd) := ⟨rfl, rfl, rfl, by decide +kernel, rfl, by decide +kernel, by decide +kernel⟩
/-- Session.create(self, per_gate, max_gates, max_wait, allowed): level 3 -/
abbrev s_Session_create : Stmt := inClass (top 58) 1
theorem sc_Session_create : FnScope ["self", "per_gate", "max_gates", "max_wait", "allowed"] ["self", "per_gate", "max_gates", "max_wait"] (defScope s_Session_create) := ⟨rfl, rfl, rfl, by decide +kernel, rfl, by decide +kernel, by decide +kernel⟩
/-! ### a def by its name, with its promise -/
section
variable {P : Program} {w : World} {K : PySem.W.Frag} {mg : Str → Option Value} {base : Heap}
/-- a def of the module as the top leaves it -/
structure Df (K : PySem.W.Frag) (mg : Str → Option Value) (x : Str) (ps : List Str) (st : Stmt) : Prop where
  ex : ∃ (f : Addr) (fd : FuncData), L2.Fun K x x st f fd ∧ mg x = some (.ref f) ∧ PySem.W.keepIn K (.ref f) = true ∧ Binds K fd ps []
/-- a method of the class at C -/
structure Dm (K : PySem.W.Frag) (C : Addr) (m qual : Str) (ps : List Str) (st : Stmt) : Prop where
  ex : ∃ (f : Addr) (fd : FuncData), L2.Fun K m qual st f fd ∧ Meth K C m f ∧ Binds K fd ps []
/-- the __init__ of a class that is called by its name -/
structure Di (K : PySem.W.Frag) (mg : Str → Option Value) (x qual : Str) (C : Addr) (ps : List Str) (st : Stmt) : Prop where
  ex : ∃ (f : Addr) (fd : FuncData), L2.Fun K "__init__" qual st f fd ∧ Mk K C f ∧ mg x = some (.ref C) ∧ Binds K fd ps []
theorem cal_of {x : Str} {st : Stmt} {N ps : List Str} {k : Nat} {sp : Sp} (D : Df K mg x ps st) (S : FnScope N ps (defScope st)) (len : ∀ vs H Q E, sp vs H Q E → vs.length = ps.length)
    (hbody : ∀ (f : Addr) (cdv : Value) (A : Around) (outer : List Env) (s : Shared) (H : Hp) (vs : List V) (Q : VK) (E : XK), Room k (A.deeper (envOfC x (defScope st) s.heap.objs.size f cdv)) → sp vs H Q E →
      ∃ t, PSs (cxOf L2.CX0 P w K mg base N x (defScope st) f cdv A outer s H E).nox (defBody st) t ∧ t { nx := fun _ H' => Q .non H', rt := Q } (start N vs) H) : C8.Cal P w K mg base (k + 1) x sp [] := by
  obtain ⟨f, fd, F, m, kp, b⟩ := D.ex
  exact ⟨f, fd, ps, [], F.ok S len (hbody f), m, kp, b, .nil⟩
theorem met_of {m qual : Str} {C : Addr} {st : Stmt} {N ps : List Str} {k : Nat} {sp : Sp} (cl : Cls K C) (D : Dm K C m qual ps st) (S : FnScope N ps (defScope st)) (len : ∀ vs H Q E, sp vs H Q E → vs.length = ps.length)
    (hbody : ∀ (f : Addr) (cdv : Value) (A : Around) (outer : List Env) (s : Shared) (H : Hp) (vs : List V) (Q : VK) (E : XK), Room k (A.deeper (envOfC qual (defScope st) s.heap.objs.size f cdv)) → sp vs H Q E →
      ∃ t, PSs (cxOf L2.CX0 P w K mg base N qual (defScope st) f cdv A outer s H E).nox (defBody st) t ∧ t { nx := fun _ H' => Q .non H', rt := Q } (start N vs) H) : C8.Met P w K mg base (k + 1) C m sp [] := by
  obtain ⟨f, fd, F, me, b⟩ := D.ex
  exact ⟨f, fd, ps, [], cl, me, F.ok S len (hbody f), b, .nil⟩
theorem mak_of {x qual : Str} {C : Addr} {st : Stmt} {N ps : List Str} {k : Nat} {sp : Sp} (D : Di K mg x qual C ps st) (S : FnScope N ps (defScope st)) (len : ∀ vs H Q E, sp vs H Q E → vs.length = ps.length)
    (hbody : ∀ (f : Addr) (cdv : Value) (A : Around) (outer : List Env) (s : Shared) (H : Hp) (vs : List V) (Q : VK) (E : XK), Room k (A.deeper (envOfC qual (defScope st) s.heap.objs.size f cdv)) → sp vs H Q E →
      ∃ t, PSs (cxOf L2.CX0 P w K mg base N qual (defScope st) f cdv A outer s H E).nox (defBody st) t ∧ t { nx := fun _ H' => Q .non H', rt := Q } (start N vs) H) : C8.Mak P w K mg base (k + 1) x C sp [] := by
  obtain ⟨f, fd, F, M, hm, b⟩ := D.ex
  exact ⟨f, fd, ps, [], M, F.ok S len (hbody f), hm, b, .nil⟩
end
section
variable {X : Cx} {k j : Nat} {C : Addr} {x m : Str} {sp : Sp} {dvs : List V} {p pos : Pos}
theorem pe_c0 (c : C8.Cal X.prog X.w X.K X.mg X.base k x sp dvs) (hr : Room j X.A) (hk : k ≤ j) (hg : Gl X x) (hdb : (x == ("__debug__" : Str)) = false := by decide) :
    PE X (.Call (.Name x p) [] [] pos) (tCall sp dvs C8.E0 tNil) := by
  obtain ⟨f, fd, ps, ds, F, hm, kp, b, d⟩ := c.ex
  exact pe_call0 F (hr.mono hk) hg hm kp b d C8.pass0 hdb
theorem pe_mk0 (c : C8.Mak X.prog X.w X.K X.mg X.base k x C sp dvs) (hr : Room j X.A) (hk : k + 1 ≤ j) (hg : Gl X x) (hdb : (x == ("__debug__" : Str)) = false := by decide) :
    PE X (.Call (.Name x p) [] [] pos) (tMake C sp dvs C8.E0 tNil) := by
  obtain ⟨f, fd, ps, ds, M, F, hm, b, d⟩ := c.ex
  exact pe_make0 M F (hr.mono hk) hg hm b d C8.pass0 hdb
end
end GW
set_option Elab.async false
set_option linter.all false
set_option maxRecDepth 100000
set_option maxHeartbeats 4000000
namespace GW
open PySem PySem.Spec PyProof.Rows L2 Evl
open Kv435 (Entrance Planner Operation Response)
/-! ### how a planner lies in the heap -/
def nv (xs : List Nat) : List V := (xs.map Int.ofNat).map V.int
theorem nv_len (xs : List Nat) : (nv xs).length = xs.length := by simp [nv]
theorem nv_append (xs ys : List Nat) : nv (xs ++ ys) = nv xs ++ nv ys := by simp [nv]
theorem nv_get {xs : List Nat} {i : Nat} (h : i < xs.length) : (nv xs)[i]? = some (.int (xs.getD i 0 : Nat)) := by
  simp [nv, h]
theorem nv_set (xs : List Nat) (i n : Nat) : (nv xs).set i (.int (n : Nat)) = nv (xs.set i n) := by
  simp [nv, List.map_set]
theorem nv_dropLast (xs : List Nat) : (nv xs).dropLast = nv xs.dropLast := by simp [nv]
/-- a planner's attributes, in the order in which they are set -/
def pF (e : Entrance) (l : Addr) : List (Str × V) := [("per_gate", .int (e.perGate : Nat)), ("max_gates", .int (e.maxGates : Nat)), ("max_wait", .int (e.maxWait : Nat)), ("arrivals", .ref l)]
structure PlanAt (C : Addr) (H : Hp) (p dx l : Addr) (e : Entrance) : Prop where
  ob : H p = some (.ins C dx (pF e l))
  li : H l = some (.lst (nv e.arrivals))
theorem PlanAt.mono {C p dx l : Addr} {H H' : Hp} {e : Entrance} (a : PlanAt C H p dx l e) (x : Ex H H') : PlanAt C H' p dx l e := ⟨x _ _ a.ob, x _ _ a.li⟩
theorem PlanAt.ne {C p dx l : Addr} {H : Hp} {e : Entrance} (a : PlanAt C H p dx l e) : p ≠ l := ne_of a.ob a.li (by intro z; cases z)
/-- within the document's ranges -/
structure Ok (e : Entrance) : Prop where
  g1 : 1 ≤ e.perGate
  g2 : e.perGate ≤ 9
  mg : e.maxGates ≤ 6
  mw : e.maxWait ≤ 6
  len : e.arrivals.length ≤ 10
  arr : ∀ a ∈ e.arrivals, a ≤ 40
theorem lk_here {k : Str} {v : V} {r : List (Str × V)} : List.lookup k ((k, v) :: r) = some v := by
  have e : (k == k) = true := beq_self_eq_true k
  simp only [List.lookup, e]
theorem lk_past {k g : Str} {v : V} {r : List (Str × V)} (h : (k == g) = false) : List.lookup k ((g, v) :: r) = List.lookup k r := by
  simp only [List.lookup, h]
theorem put_here {f : Str} {v x : V} {r : List (Str × V)} : putF f v ((f, x) :: r) = (f, v) :: r := if_pos rfl
theorem put_past {f g : Str} {v x : V} {r : List (Str × V)} (h : ¬ g = f) : putF f v ((g, x) :: r) = (g, x) :: putF f v r := if_neg h
section
variable (e : Entrance) (l : Addr)
theorem pF_pg : (pF e l).lookup ("per_gate" : Str) = some (.int (e.perGate : Nat)) := lk_here
theorem pF_mg : (pF e l).lookup ("max_gates" : Str) = some (.int (e.maxGates : Nat)) := (lk_past (by decide +kernel)).trans lk_here
theorem pF_mw : (pF e l).lookup ("max_wait" : Str) = some (.int (e.maxWait : Nat)) := (lk_past (by decide +kernel)).trans ((lk_past (by decide +kernel)).trans lk_here)
theorem pF_ar : (pF e l).lookup ("arrivals" : Str) = some (.ref l) := (lk_past (by decide +kernel)).trans ((lk_past (by decide +kernel)).trans ((lk_past (by decide +kernel)).trans lk_here))
theorem pF_has : (pF e l).lookup ("has_minute" : Str) = none := (lk_past (by decide +kernel)).trans ((lk_past (by decide +kernel)).trans ((lk_past (by decide +kernel)).trans ((lk_past (by decide +kernel)).trans rfl)))
theorem pF_put_ar (l' : Addr) : putF "arrivals" (.ref l') (pF e l) = pF e l' := (put_past (by decide +kernel)).trans (congrArg _ ((put_past (by decide +kernel)).trans (congrArg _ ((put_past (by decide +kernel)).trans (congrArg _ put_here)))))
theorem pF_put_pg (n : Nat) : putF "per_gate" (.int (n : Nat)) (pF e l) = pF { e with perGate := n } l := put_here
theorem pF_put_mg (n : Nat) : putF "max_gates" (.int (n : Nat)) (pF e l) = pF { e with maxGates := n } l := (put_past (by decide +kernel)).trans (congrArg _ put_here)
theorem pF_put_mw (n : Nat) : putF "max_wait" (.int (n : Nat)) (pF e l) = pF { e with maxWait := n } l := (put_past (by decide +kernel)).trans (congrArg _ ((put_past (by decide +kernel)).trans (congrArg _ put_here)))
theorem pF_new (p g m : Nat) : putF "arrivals" (.ref l) (putF "max_wait" (.int (m : Nat)) (putF "max_gates" (.int (g : Nat)) (putF "per_gate" (.int (p : Nat)) []))) = pF ⟨p, g, m, []⟩ l := by
  show putF "arrivals" (.ref l) (putF "max_wait" (.int (m : Nat)) (putF "max_gates" (.int (g : Nat)) [("per_gate", .int (p : Nat))])) = _
  rw [put_past (by decide +kernel)]
  show putF "arrivals" (.ref l) (putF "max_wait" (.int (m : Nat)) [("per_gate", .int (p : Nat)), ("max_gates", .int (g : Nat))]) = _
  rw [put_past (by decide +kernel), put_past (by decide +kernel)]
  show putF "arrivals" (.ref l) [("per_gate", .int (p : Nat)), ("max_gates", .int (g : Nat)), ("max_wait", .int (m : Nat))] = _
  rw [put_past (by decide +kernel), put_past (by decide +kernel), put_past (by decide +kernel)]
  rfl
end
/-! ### what the top has written -/
structure Txt (K : PySem.W.Frag) (mg : Str → Option Value) (CP CS : Addr) : Prop where
  clP : Cls K CP
  clS : Cls K CS
  aPg : NoAttr K CP "per_gate"
  aMg : NoAttr K CP "max_gates"
  aMw : NoAttr K CP "max_wait"
  aAr : NoAttr K CP "arrivals"
  aPl : NoAttr K CS "planner"
  b_len : mg "len" = none
  b_sum : mg "sum" = none
  b_max : mg "max" = none
  b_min : mg "min" = none
  b_range : mg "range" = none
  b_list : mg "list" = none
  b_all : mg "all" = none
  g_MOST_PER_GATE : ∃ u, mg "MOST_PER_GATE" = some u ∧ RelV (.int 9) u
  g_MOST_GATES : ∃ u, mg "MOST_GATES" = some u ∧ RelV (.int 6) u
  g_MOST_WAIT : ∃ u, mg "MOST_WAIT" = some u ∧ RelV (.int 6) u
  g_MOST_ARRIVALS : ∃ u, mg "MOST_ARRIVALS" = some u ∧ RelV (.int 40) u
  g_MOST_MINUTES : ∃ u, mg "MOST_MINUTES" = some u ∧ RelV (.int 10) u
  g_MOST_IN_SCHEDULE : ∃ u, mg "MOST_IN_SCHEDULE" = some u ∧ RelV (.int 9) u
  g_FIRST_QUERY : ∃ u, mg "FIRST_QUERY" = some u ∧ RelV (.int 7) u
  g_FIRST_EVALUATION : ∃ u, mg "FIRST_EVALUATION" = some u ∧ RelV (.int 12) u
  g_FIRST_WHAT_IF : ∃ u, mg "FIRST_WHAT_IF" = some u ∧ RelV (.int 16) u
  g_FIRST_TOTAL : ∃ u, mg "FIRST_TOTAL" = some u ∧ RelV (.int 21) u
  g_COUNTS : ∃ (a : Addr), mg "ARGUMENT_COUNTS" = some (.ref a) ∧ ∀ H : Hp, SqT K H a (nv [3, 1, 2, 0, 1, 1, 1, 0, 0, 0, 0, 0, 0, 0, 0, 0, 0, 0, 2, 1, 1, 2, 0])
/-! ### readings of a field, a length, a call: what they evaluate to -/
section
variable {K : PySem.W.Frag} {mg : Str → Option Value} {CP CS : Addr} {σ : L2.St} {H : Hp} {te : TE} {p dx l : Addr} {e : Entrance} {v : V}
theorem ev_fld {f : Str} {C : Addr} {fs : List (Str × V)} (h : Ev te σ H (.ref p)) (ho : H p = some (.ins C dx fs)) (hc : Cls K C) (hn : NoAttr K C f) (hl : fs.lookup f = some v) : Ev (tFld K te f) σ H v := fun H1 x Q q =>
  h H1 x _ fun H2 x2 => ⟨p, C, dx, fs, v, rfl, x2 _ _ (x _ _ ho), hc, hn, hl, q H2 x2⟩
theorem ev_pg (T : Txt K mg CP CS) (h : Ev te σ H (.ref p)) (a : PlanAt CP H p dx l e) : Ev (tFld K te "per_gate") σ H (.int (e.perGate : Nat)) := ev_fld h a.ob T.clP T.aPg (pF_pg _ _)
theorem ev_mg (T : Txt K mg CP CS) (h : Ev te σ H (.ref p)) (a : PlanAt CP H p dx l e) : Ev (tFld K te "max_gates") σ H (.int (e.maxGates : Nat)) := ev_fld h a.ob T.clP T.aMg (pF_mg _ _)
theorem ev_mw (T : Txt K mg CP CS) (h : Ev te σ H (.ref p)) (a : PlanAt CP H p dx l e) : Ev (tFld K te "max_wait") σ H (.int (e.maxWait : Nat)) := ev_fld h a.ob T.clP T.aMw (pF_mw _ _)
theorem ev_ar (T : Txt K mg CP CS) (h : Ev te σ H (.ref p)) (a : PlanAt CP H p dx l e) : Ev (tFld K te "arrivals") σ H (.ref l) := ev_fld h a.ob T.clP T.aAr (pF_ar _ _)
theorem ev_nlen (T : Txt K mg CP CS) (h : Ev te σ H (.ref p)) (a : PlanAt CP H p dx l e) : Ev (tCB (rLenS K) (tCons (tFld K te "arrivals") tNil)) σ H (.int (e.arrivals.length : Nat)) := by
  have := ev_len (K := K) (ev_ar T h a) (sq_of a.li)
  rw [nv_len] at this
  exact this
/-- o.m(..) of an instance -/
theorem ev_meth {C : Addr} {m : Str} {sp : Sp} {E : XK} {ta : TE} {t : TA} {fs : List (Str × V)} {vs : List V} (ho : Ev ta σ H (.ref p)) (hp : H p = some (.ins C dx fs)) (hl : fs.lookup m = none) (h : EvA t σ H vs) (hs : SpV sp (.ref p :: (vs ++ [])) H v) : Ev (tMeth C m sp [] E ta t) σ H v := fun H1 e Q q =>
  ho H1 e _ fun H2 e2 => ⟨p, dx, fs, rfl, e2 _ _ (e _ _ hp), hl, h H2 (e.trans e2) _ fun H3 e3 => hs H3 ((e.trans e2).trans e3) Q (fun H4 e4 => q H4 ((e2.trans e3).trans e4)) E⟩
theorem ev_add {ta tb : TE} {i j : Int} (ha : Ev ta σ H (.int i)) (hb : Ev tb σ H (.int j)) : Ev (tOp (rI0 fun i j => .int (i + j)) ta tb) σ H (.int (i + j)) := ev_op ha hb rv_I0
theorem ev_sub {ta tb : TE} {i j : Int} (ha : Ev ta σ H (.int i)) (hb : Ev tb σ H (.int j)) : Ev (tOp (rI0 fun i j => .int (i - j)) ta tb) σ H (.int (i - j)) := ev_op ha hb rv_I0
theorem et_lt {ta tb : TE} {i j : Int} (ha : Ev ta σ H (.int i)) (hb : Ev tb σ H (.int j)) : EvT (tTest (tOp (rI0 fun i j => .bl (decide (i < j))) ta tb)) σ H (decide (i < j)) := et_test (ev_op ha hb rv_I0)
theorem et_ge {ta tb : TE} {i j : Int} (ha : Ev ta σ H (.int i)) (hb : Ev tb σ H (.int j)) : EvT (tTest (tOp (rI0 fun i j => .bl (decide (j ≤ i))) ta tb)) σ H (decide (j ≤ i)) := et_test (ev_op ha hb rv_I0)
theorem et_eqi {ta tb : TE} {i j : Int} (ha : Ev ta σ H (.int i)) (hb : Ev tb σ H (.int j)) : EvT (tTest (tOp rEq ta tb)) σ H (decide (i = j)) := by
  have := et_test (ev_op ha hb (rv_eq (H := H) (x := .int i) (y := .int j) rfl))
  have e : decide (V.int i = V.int j) = decide (i = j) := by
    by_cases c : i = j
    · subst c; simp
    · simp [c]
  rwa [e] at this
end
/-! ### promises -/
/-- an int in, a truth value out -/
def spB1 (g : Int → Bool) : Sp := fun vs H Q _ => ∃ n, vs = [.int n] ∧ RetV (.bl (g n)) H Q
/-- a method that asks for a minute -/
def spHas (CP : Addr) : Sp := fun vs H Q _ => ∃ (p dx l : Addr) (e : Entrance) (m : Nat), vs = [.ref p, .int (m : Nat)] ∧ PlanAt CP H p dx l e ∧ RetV (.bl (decide (m < e.minutes))) H Q
theorem ev_has {σ : L2.St} {H : Hp} {E : XK} {CP : Addr} {ta tm : TE} {p dx l : Addr} {e : Entrance} {m : Nat} (ho : Ev ta σ H (.ref p)) (hm : Ev tm σ H (.int (m : Nat))) (pl : PlanAt CP H p dx l e) :
    Ev (tMeth CP "has_minute" (spHas CP) [] E ta (tCons tm tNil)) σ H (.bl (decide (m < e.minutes))) :=
  ev_meth ho pl.ob (pF_has _ _) (ea_cons hm ea_nil) fun H1 x Q q _ => ⟨p, dx, l, e, m, rfl, pl.mono x, q⟩
/-- a list of one number -/
def spL0 (z : Int) : Sp := fun vs H Q _ => vs = [] ∧ RetL [.int z] H Q
/-- an answer's numbers -/
def row (r : Response) : List V := (Kv435Neutral.resultRow r).map V.int
/-- the planner stands as r tells, the answer is a new list, all else is as it was -/
def Back (CP : Addr) (H : Hp) (Q : VK) (p dx l : Addr) (r : Planner × Response) : Prop := ∀ (H' : Hp) (a : Addr), H a = none → H' a = some (.lst (row r.2)) → PlanAt CP H' p dx l r.1.entrance →
  (∀ b o, H b = some o → b ≠ p → b ≠ l → H' b = some o) → Q (.ref a) H'
/-- a call on the planner: its numbers, what the specification does -/
def spRun (CP : Addr) (k : Nat) (g : List Nat → Operation) : Sp := fun vs H Q _ => ∃ (p dx l : Addr) (e : Entrance) (ns : List Nat), vs = .ref p :: nv ns ∧ ns.length = k ∧ PlanAt CP H p dx l e ∧ Ok e ∧ Back CP H Q p dx l (Planner.run ⟨e⟩ (g ns))
theorem Back.mono {CP : Addr} {H H' : Hp} {Q : VK} {p dx l : Addr} {r : Planner × Response} (k : Back CP H Q p dx l r) (x : Ex H H') : Back CP H' Q p dx l r :=
  fun H2 a ha h2 h3 h4 => k H2 a (fresh_back x ha) h2 h3 fun b o hb h5 h6 => h4 b o (x _ _ hb) h5 h6
theorem Back.query {CP : Addr} {H H' H2 : Hp} {Q : VK} {p dx l : Addr} {e : Entrance} {r : Planner × Response} (k : Back CP H Q p dx l r) (he : r.1 = ⟨e⟩) (P : PlanAt CP H p dx l e) (x : Ex H H') {a : Addr} {xs : List V} (ha : H' a = none) (x2 : Ex H' H2) (h2 : H2 a = some (.lst xs)) (hr : xs = row r.2) : Q (.ref a) H2 := by
  subst hr
  refine k H2 a (fresh_back x ha) h2 ?_ fun b o q _ _ => x2 _ _ (x _ _ q)
  rw [he]
  exact (P.mono x).mono x2
section
variable {σ : L2.St} {H : Hp} {te : TE} {E : XK}
theorem et_B1 {g : Int → Bool} {n : Int} (h : Ev te σ H (.int n)) : EvT (tB (tCall (spB1 g) [] E (tCons te tNil))) σ H (g n) :=
  et_B (ev_call (ea_cons h ea_nil) fun H1 _ Q q _ => ⟨n, rfl, q⟩)
theorem ev_B1 {g : Int → Bool} {n : Int} (h : Ev te σ H (.int n)) : Ev (tCall (spB1 g) [] E (tCons te tNil)) σ H (.bl (g n)) :=
  ev_call (ea_cons h ea_nil) fun H1 _ Q q _ => ⟨n, rfl, q⟩
theorem el_L0 {z : Int} : EvL (tCall (spL0 z) [] E tNil) σ H [.int z] := el_call ea_nil fun H1 _ Q q _ => ⟨rfl, q⟩
end
end GW
set_option Elab.async false
set_option linter.all false
set_option maxRecDepth 100000
set_option maxHeartbeats 4000000
/-! max(xs, default=d) of ints: one induction over what is still to be walked, with the best so far, if there is one -/
namespace GM
open PySem
/-- what the loop holds: nothing yet, or the best so far, twice -/
def heldArr : Option Value → Array Value
  | none => #[]
  | some v => #[v, v]
/-- the best of the first j: one of them, and none is greater -/
def Best (P : Nat → Value → Prop) (f : Nat → Int) (j : Nat) (v : Value) : Prop := ∃ i, i < j ∧ P i v ∧ ∀ k, k < j → f k ≤ f i
theorem Best.first {P : Nat → Value → Prop} {f : Nat → Int} {v : Value} (h : P 0 v) : Best P f 1 v :=
  ⟨0, Nat.zero_lt_one, h, fun k hk => (by omega : 0 = k) ▸ Int.le_refl _⟩
abbrev kwD (dv : Value) : List (Str × Value) := [(Str.ofString "default", dv)]
section
variable {prog : Program} {w : World} {A : Around} {R : Result → Shared → Prop} {I S : Addr} {fp wr : List Addr} {n : Nat} {P : Nat → Value → Prop} {St : Nat → Heap → Prop} {dv : Value} {f : Nat → Int}
/-- all but S and what the walk writes stands -/
def Kp (wr : List Addr) (S : Addr) (h h' : Heap) : Prop := ∀ b o, b ∉ wr → b ≠ S → h.get? b = some o → h'.get? b = some o
theorem Kp.trans {h h1 h2 : Heap} (a : Kp wr S h h1) (b : Kp wr S h1 h2) : Kp wr S h h2 := fun x o c d e => b x o c d (a x o c d e)
theorem Kp.upd {h : Heap} {u : Obj → Obj} : Kp wr S h (h.update S u) := fun _ _ _ d e => (Heap.get?_update_other _ _ (Ne.symm d)).trans e
theorem walkD (W : Walks prog w A.in1 I fp wr n P St) (hcmp : CmpOf prog w A.in1 .Gt P fun i j => decide (f i > f j)) (hSf : S ∉ fp) (d : Nat) :
    ∀ (j : Nat) (s : Shared) (held : Option Value) (c : Nat), d + j = n → St j s.heap → s.heap.get? S = some { cls := .type "list", dict := none, data := .seq (heldArr held) c, slots := #[] } →
      (held = none → j = 0) → (∀ v, held = some v → Best P f j v) → (∀ v h' tk, Best P f n v → Kp wr S s.heap h' → R (.ok (.ret v)) { s with heap := h', toks := tk }) →
      (n = 0 → ∀ h' tk, Kp wr S s.heap h' → R (.ok (.ret dv)) { s with heap := h', toks := tk }) → codeAny (model prog w) A (.builtin "max.loop" ⟨[.ref I, .none, .ref S], kwD dv⟩) R s := by
  have hw : S ∉ wr := fun q => hSf (W.sub _ q)
  have hq : ∀ a, (Code.builtin "max.loop" a).quiet = true := fun a => plainId_quiet F.plain_max_loop a
  have hnm : (toString "max" ++ toString ".loop" : String) = "max.loop" := by decide
  induction d with
  | zero =>
    intro j s held c hd hst hS hn hb hR hR0
    refine codeAny_builtin F.entry_max_loop ((Around.under_plainId F.plain_max_loop _).symm ▸ ?_)
    show wpAny _ _ (seqItems? (.ref S) >>= _) _ _ _
    refine wpAny_bind (wpAny_seqItems hS rfl (?_ : wpAny _ A.in1 (tryCatch (pyNext (.ref I)) _ >>= _) _ _ s))
    obtain rfl : j = n := by omega
    refine wpAny_bind (wpAny_tryCatch (W.done s _ _ hst fun h1 tk k1 => ?_))
    have kp : Kp wr S s.heap h1 := fun b o c1 _ e => k1 b o c1 e
    cases held with
    | none => exact wpAny_bind (wpAny_rule (wpAny_pure (hR0 (hn rfl) h1 tk kp)))
    | some v => exact wpAny_bind (wpAny_updateSeq (hz := by show 2 ≤ sizeLine; decide) (k1 S _ hw hS) rfl (wpAny_bind (wpAny_letGo (wpAny_pure (hR v _ tk (hb v rfl) (kp.trans Kp.upd))))))
  | succ d ih =>
    intro j s held c hd hst hS hn hb hR hR0
    refine codeAny_builtin F.entry_max_loop ((Around.under_plainId F.plain_max_loop _).symm ▸ ?_)
    show wpAny _ _ (seqItems? (.ref S) >>= _) _ _ _
    refine wpAny_bind (wpAny_seqItems hS rfl (?_ : wpAny _ A.in1 (tryCatch (pyNext (.ref I)) _ >>= _) _ _ s))
    refine wpAny_bind (wpAny_tryCatch (W.item j s _ _ (by omega) hst fun u h1 tk hu st1 k1 => ?_))
    have kp : Kp wr S s.heap h1 := fun b o c1 _ e => k1 b o c1 e
    have hS1 := k1 S _ hw hS
    -- the loop once more, holding v2
    have more : ∀ (h2 : Heap) (tk2 : _) (v2 : Value) (c2 : Nat), Kp wr S h1 h2 → St (j + 1) h2 → h2.get? S = some { cls := .type "list", dict := none, data := .seq (heldArr (some v2)) c2, slots := #[] } → Best P f (j + 1) v2 →
        codeAny (model prog w) A (.builtin "max.loop" ⟨[.ref I, .none, .ref S], kwD dv⟩) R { s with heap := h2, toks := tk2 } := fun h2 tk2 v2 c2 k2 st2 hS2 b2 =>
      ih (j + 1) _ (some v2) c2 (by omega) st2 hS2 (fun q => nomatch q) (fun v q => Option.some.inj q ▸ b2) (fun v h' t' bv kv => hR v h' t' bv ((kp.trans k2).trans kv)) fun q => absurd q (by omega)
    have stU : ∀ g : Obj → Obj, St (j + 1) (h1.update S g) := fun g => W.frame _ _ _ st1 fun b bf o e => (Heap.get?_update_other _ _ fun q : S = b => hSf (q ▸ bf)).trans e
    cases held with
    | none =>
      obtain rfl := hn rfl
      show wpAny _ A.in1 (updateSeq S _ >>= _) _ _ _
      refine wpAny_bind (wpAny_updateSeq (hz := by show 0 ≤ sizeLine; decide) hS1 rfl ?_)
      exact hnm.symm ▸ wpAny_pure ⟨hq _, more _ tk u _ Kp.upd (stU _) (Heap.get?_update_self _ hS1 rfl) (.first hu)⟩
    | some v =>
      obtain ⟨i, hij, hv, hmax⟩ := hb v rfl
      show wpAny _ A.in1 (tryCatch (holding [u, u] _) _ >>= _) _ _ _
      refine wpAny_bind (wpAny_tryCatch (wpAny_holding (wpAny_bind (hcmp j i u v _ _ _ hu hv (wpAny_bind (wpAny_holding (wpAny_truthy_bool (wpAny_bind (wpAny_letGo (wpAny_pure ?_))))))))))
      by_cases gt : f j > f i
      · rw [if_pos (show (fun i j => decide (f i > f j)) j i = true from decide_eq_true gt)]
        refine wpAny_bind (wpAny_updateSeq (hz := by show 2 ≤ sizeLine; decide) hS1 rfl (wpAny_bind (wpAny_letGo ?_)))
        exact hnm.symm ▸ wpAny_pure ⟨hq _, more _ tk u _ Kp.upd (stU _) (Heap.get?_update_self _ hS1 rfl) ⟨j, Nat.lt_succ_self j, hu, fun k hk => by
          by_cases e : k = j
          · rw [e]; exact Int.le_refl _
          · have := hmax k (by omega)
            omega⟩⟩
      · rw [if_neg (show ¬ (fun i j => decide (f i > f j)) j i = true from fun q => gt (of_decide_eq_true q))]
        refine wpAny_bind (wpAny_letGo ?_)
        exact hnm.symm ▸ wpAny_pure ⟨hq _, more _ tk v _ (fun _ _ _ _ e => e) st1 hS1 ⟨i, by omega, hv, fun k hk => by
          by_cases e : k = j
          · rw [e]; omega
          · exact hmax k (by omega)⟩⟩
end
section
variable {prog : Program} {w : World} {A : Around} {E : Value → Shared → Prop} {s : Shared} {dv : Value}
theorem sigD (a v : Value) : argsOk "max" ⟨[a], kwD v⟩ := by unfold argsOk; kernel_rfl
theorem bindD (v : Value) : Builtin.Builtins.bindParams "max" ["key", "default"] 0 ⟨[], kwD v⟩ = pure [none, some v] := by first | rfl | kernel_rfl
/-- the call, told by what it leaves to the loop -/
theorem callD {x : Value} {Q : Value → Shared → Prop} (h : wpAny (model prog w) A.in1 (Builtin.«max» ⟨[x], kwD dv⟩) (fun fin s' => ∃ c, fin = .again c ∧ c.quiet = true ∧ codeAny (model prog w) A c (fun r s2 => match r with | .ok (.ret v) => Q v s2 | .ok _ => False | .error e => E e s2) s') E s) :
    wpAny (model prog w) A (call (.builtin "max") [x] (kwD dv)) Q E s := by
  refine wpAny_call (codeAny_call_builtin F.plain_max F.entry_max ?_)
  have h' := wpAny_mono h (Q' := fun fin s' => match fin with
      | .done r => (match (Except.ok r : Result) with | .ok (.ret v) => Q v s' | .ok _ => False | .error e => E e s')
      | .again c => c.quiet = true ∧ codeAny (model prog w) A c (fun r s2 => match r with | .ok (.ret v) => Q v s2 | .ok _ => False | .error e => E e s2) s')
    (fun fin s' ⟨c, e, g⟩ => by subst e; exact g) fun _ _ z => z
  have hs := sigD x dv
  unfold argsOk at hs
  simp only [checkBuiltinCall, F.kind_max]
  revert hs
  cases Manifest.signature? "max" with
  | none => exact fun _ => wpAny_pure h'
  | some sig =>
    intro hs
    have e : Bind.checkArgs "max" sig ⟨[x], kwD dv⟩ = pure () := hs
    show wpAny _ _ (Bind.checkArgs "max" sig ⟨[x], kwD dv⟩) _ _ _
    rw [e]
    exact wpAny_pure h'
/-- of a list of ints -/
theorem listD {l : Addr} {xs : Array (Int × Tok)} {Q : Value → Shared → Prop} (hh : A.handled = none) (hl : s.heap.IsList l (intItems xs))
    (h : ∀ v h' tk, Best (fun i v => (intItems xs)[i]? = some v) (numAt xs) xs.size v → (∀ b o, s.heap.get? b = some o → h'.get? b = some o) → Q v { s with heap := h', toks := tk })
    (h0 : xs.size = 0 → ∀ h' tk, (∀ b o, s.heap.get? b = some o → h'.get? b = some o) → Q dv { s with heap := h', toks := tk }) :
    wpAny (model prog w) A (call (.builtin "max") [.ref l] (kwD dv)) Q E s := by
  have hnm : (toString "max" ++ toString ".loop" : String) = "max.loop" := by decide
  refine callD ?_
  show wpAny _ A.in1 (Builtin.Builtins.bindParams "max" ["key", "default"] 0 ⟨[], kwD dv⟩ >>= _) _ _ s
  refine wpAny_bind (wpAny_of_eq (bindD dv) (wpAny_bind (wpAny_pure (wpAny_bind (iter_intList hl fun s1 e1 st fps li => ?_)))))
  subst e1
  refine wpAny_bind (wpAny_newObj_type ?_)
  have W := Walks.list (A := A.in1) (prog := prog) (w := w) hh s.heap.objs.size l li (intItems xs)
  have hsz : (intItems xs).size = xs.size := by simp [intItems]
  refine hnm.symm ▸ wpAny_pure ⟨_, rfl, plainId_quiet F.plain_max_loop _, walkD W (f := numAt xs) (CmpOf.ints_gt (numAt xs) fun _ _ => intItems_at) (fun q => Nat.lt_irrefl _ (fps _ q)) (intItems xs).size 0 _ none _ rfl
    (W.frame _ _ _ st fun b _ o e => Heap.get?_push_of_some _ e) (Heap.get?_push_size _ rfl) (fun _ => rfl) (fun v q => nomatch q) (fun v h' tk bv kv => ?_) fun hz h' tk kv => ?_⟩
  · exact h v h' tk (hsz ▸ bv) (old_kept fun b o hb e => kv b o hb (Nat.ne_of_lt (Heap.lt_size e)) (Heap.get?_push_of_some _ e))
  · exact h0 (hsz ▸ hz) h' tk (old_kept fun b o hb e => kv b o hb (Nat.ne_of_lt (Heap.lt_size e)) (Heap.get?_push_of_some _ e))
end
end GM
namespace GW
open PySem PySem.Spec PyProof.Rows L2 Evl
theorem max_rawD {prog : Program} {w : World} {A : Around} {E : Value → Shared → Prop} {s : Shared} {l : Addr} {its : List Value} {ns : List Int} {dv : Value} {Q : Value → Shared → Prop} (hh : A.handled = none) (hl : s.heap.IsList l its.toArray) (hi : IntsAre its ns)
    (h : ∀ h' tk M t', (∀ b o, s.heap.get? b = some o → h'.get? b = some o) → M ∈ ns → (∀ a, a ∈ ns → a ≤ M) → Q (.int M t') { s with heap := h', toks := tk })
    (h0 : ns = [] → ∀ h' tk, (∀ b o, s.heap.get? b = some o → h'.get? b = some o) → Q dv { s with heap := h', toks := tk }) : wpAny (model prog w) A (call (.builtin "max") [.ref l] (GM.kwD dv)) Q E s := by
  obtain ⟨xs, hxs⟩ := hi.allInts.items
  have hns : ns = xs.toList.map (·.1) := by rw [← hi.numsOf, ← nums_intItems, ← hxs]
  have hln : ns.length = xs.size := by rw [hns, List.length_map, Array.length_toList]
  have hat : ∀ i, numAt xs i = ns.getD i 0 := fun i => by rw [numAt_eq, hns]
  rw [hxs] at hl
  refine GM.listD hh hl (fun v h' tk ⟨i, hi1, hv, hm⟩ hk => ?_) fun hz => h0 (List.eq_nil_of_length_eq_zero (hln.trans hz))
  obtain ⟨t, rfl⟩ := intItems_at hv
  rw [← hln] at hi1 hm
  rw [hat] at hm ⊢
  refine h h' tk _ t hk ?_ fun a ha => ?_
  · exact PySem.getD_mem hi1
  · obtain ⟨j, hj, rfl⟩ := mem_getD ha
    exact hat j ▸ hm j hj
/-- max(xs, default=d), ints -/
def rMaxD (K : PySem.W.Frag) : List V → List V → Hp → VK → Prop := fun vs zs H Q => ∃ (a : Addr) (ns : List Int) (d : Int), vs = [V.ref a] ∧ zs = [.int d] ∧ SqL K H a (ns.map V.int) ∧
  (∀ m, m ∈ ns → (∀ y, y ∈ ns → y ≤ m) → Q (.int m) H) ∧ (ns = [] → Q (.int d) H)
theorem cr_maxDef {X : Cx} (hc : X.calm = true) : CallRK X (.builtin "max") [Str.ofString "default"] (rMaxD X.K) := by
  intro pins s σ H vs zs us ws Q I r rz h
  obtain ⟨a, ns, d, rfl, rfl, hs, q, q0⟩ := h
  obtain ⟨its, rv, hl, _⟩ := I.list hs
  obtain rfl := Vals.ref1 r
  obtain ⟨w1, rfl, e1⟩ := vals1 rz
  obtain ⟨t, rfl⟩ := e1
  exact max_rawD (I.ok.hd hc) hl.isList rv.ints (fun h' tk m t' hk h1 h2 => ⟨.int _, H, I.kept hk, ⟨_, rfl⟩, q m h1 h2⟩) fun e h' tk hk => ⟨.int _, H, I.kept hk, ⟨_, rfl⟩, q0 e⟩
/-- max(xs, default=0) of natural numbers -/
theorem ev_maxD {K : PySem.W.Frag} {σ : L2.St} {H : Hp} {te : TE} {a : Addr} {xs : List Nat} (h : Ev te σ H (.ref a)) (ha : SqL K H a (nv xs)) : ∃ m : Nat, (∀ G : Nat, m ≤ G ↔ ∀ x ∈ xs, x ≤ G) ∧ Ev (tCKw (rMaxD K) (tCons te tNil) (tCons (tC (.int 0)) tNil)) σ H (.int (m : Nat)) := by
  have hmax : ∀ l : List Nat, ∃ m : Nat, (l = [] → m = 0) ∧ (l ≠ [] → m ∈ l) ∧ ∀ x ∈ l, x ≤ m := by
    intro l
    induction l with
    | nil => exact ⟨0, fun _ => rfl, fun h => absurd rfl h, fun x hx => by cases hx⟩
    | cons b l ih =>
      obtain ⟨m, m0, m1, m2⟩ := ih
      by_cases c : b ≤ m
      · by_cases d : l = []
        · subst d
          have := m0 rfl
          exact ⟨b, fun q => (by cases q), fun _ => List.mem_cons_self, fun x hx => by
            rcases List.mem_cons.mp hx with rfl | hx
            · exact Nat.le_refl _
            · cases hx⟩
        · exact ⟨m, fun q => (by cases q), fun _ => List.mem_cons_of_mem _ (m1 d), fun x hx => by
            rcases List.mem_cons.mp hx with rfl | hx
            · exact c
            · exact m2 x hx⟩
      · exact ⟨b, fun q => (by cases q), fun _ => List.mem_cons_self, fun x hx => by
          rcases List.mem_cons.mp hx with rfl | hx
          · exact Nat.le_refl _
          · have := m2 x hx; omega⟩
  obtain ⟨m, m0, m1, m2⟩ := hmax xs
  refine ⟨m, fun G => ⟨fun h x hx => Nat.le_trans (m2 x hx) h, fun h => ?_⟩, fun H1 e Q q => h H1 e _ fun H2 e2 => ⟨a, xs.map Int.ofNat, 0, rfl, rfl, ex_l (e.trans e2) ha, fun z hz hy => ?_, fun hn => ?_⟩⟩
  · by_cases d : xs = []
    · rw [m0 d]; exact Nat.zero_le _
    · exact h m (m1 d)
  · have hne : xs ≠ [] := by rintro rfl; cases hz
    obtain ⟨x, hx, rfl⟩ := List.mem_map.mp hz
    have h1 := m2 x hx
    have h2 := hy (Int.ofNat m) (List.mem_map.mpr ⟨m, m1 hne, rfl⟩)
    have : Int.ofNat x = ((m : Nat) : Int) := by
      have : ((m : Nat) : Int) ≤ ((x : Nat) : Int) := h2
      show ((x : Nat) : Int) = _
      omega
    rw [this]
    exact q H2 e2
  · have hne : xs = [] := List.map_eq_nil_iff.mp hn
    have := m0 hne
    have e0 : ((m : Nat) : Int) = 0 := by omega
    have q' := q H2 e2
    rw [e0] at q'
    exact q'
end GW
set_option Elab.async false
set_option linter.all false
set_option maxRecDepth 100000
set_option maxHeartbeats 4000000
namespace GW
open PySem PySem.Spec PyProof.Rows L2 Evl
open Kv435 (Entrance Planner Operation Response)
section
variable {P : Program} {w : World} {K : PySem.W.Frag} {mg : Str → Option Value} {base : Heap} {CP CS : Addr}
/-! ### ranges -/
def gPg (n : Int) : Bool := decide (1 ≤ n) && decide (n ≤ 9)
def gMg (n : Int) : Bool := decide (n ≤ 6)
def gAr (n : Int) : Bool := decide (n ≤ 40)
theorem ok_per_gate_allowed (T : Txt K mg CP CS) (D : Df K mg "per_gate_allowed" ["people"] s_per_gate_allowed) : C8.Cal P w K mg base 1 "per_gate_allowed" (spB1 gPg) [] := by
  refine cal_of D sc_per_gate_allowed (fun vs H Q E h => by obtain ⟨n, rfl, _⟩ := h; rfl) fun f cdv A outer s H vs Q E hr h => ⟨_, (pss_one (ps_ret (pe_and (pe_cmpR op_ge (pv 0) pe_int (nomark _)) (pe_one (pe_cmpR op_le (pv 0) (C8.pe_gc (by rfl) T.g_MOST_PER_GATE) (nomark _)))))), ?_⟩
  obtain ⟨n, rfl, k⟩ := h
  exact s_ret (ev_andV (ev_op (ev_var rfl) ev_c rv_I0) fun _ => ev_op (ev_var rfl) ev_c rv_I0) k
theorem ok_max_gates_allowed (T : Txt K mg CP CS) (D : Df K mg "max_gates_allowed" ["gates"] s_max_gates_allowed) : C8.Cal P w K mg base 1 "max_gates_allowed" (spB1 gMg) [] := by
  refine cal_of D sc_max_gates_allowed (fun vs H Q E h => by obtain ⟨n, rfl, _⟩ := h; rfl) fun f cdv A outer s H vs Q E hr h => ⟨_, (pss_one (ps_ret (pe_cmpR op_le (pv 0) (C8.pe_gc (by rfl) T.g_MOST_GATES) (nomark _)))), ?_⟩
  obtain ⟨n, rfl, k⟩ := h
  exact s_ret (ev_op (ev_var rfl) ev_c rv_I0) k
theorem ok_max_wait_allowed (T : Txt K mg CP CS) (D : Df K mg "max_wait_allowed" ["minutes"] s_max_wait_allowed) : C8.Cal P w K mg base 1 "max_wait_allowed" (spB1 gMg) [] := by
  refine cal_of D sc_max_wait_allowed (fun vs H Q E h => by obtain ⟨n, rfl, _⟩ := h; rfl) fun f cdv A outer s H vs Q E hr h => ⟨_, (pss_one (ps_ret (pe_cmpR op_le (pv 0) (C8.pe_gc (by rfl) T.g_MOST_WAIT) (nomark _)))), ?_⟩
  obtain ⟨n, rfl, k⟩ := h
  exact s_ret (ev_op (ev_var rfl) ev_c rv_I0) k
theorem ok_arrivals_allowed (T : Txt K mg CP CS) (D : Df K mg "arrivals_allowed" ["people"] s_arrivals_allowed) : C8.Cal P w K mg base 1 "arrivals_allowed" (spB1 gAr) [] := by
  refine cal_of D sc_arrivals_allowed (fun vs H Q E h => by obtain ⟨n, rfl, _⟩ := h; rfl) fun f cdv A outer s H vs Q E hr h => ⟨_, (pss_one (ps_ret (pe_cmpR op_le (pv 0) (C8.pe_gc (by rfl) T.g_MOST_ARRIVALS) (nomark _)))), ?_⟩
  obtain ⟨n, rfl, k⟩ := h
  exact s_ret (ev_op (ev_var rfl) ev_c rv_I0) k
def gIn (n : Int) : Bool := decide (n ≤ 9)
theorem ok_gates_allowed (T : Txt K mg CP CS) (D : Df K mg "gates_allowed" ["gates"] s_gates_allowed) : C8.Cal P w K mg base 1 "gates_allowed" (spB1 gIn) [] := by
  refine cal_of D sc_gates_allowed (fun vs H Q E h => by obtain ⟨n, rfl, _⟩ := h; rfl) fun f cdv A outer s H vs Q E hr h => ⟨_, (pss_one (ps_ret (pe_cmpR op_le (pv 0) (C8.pe_gc (by rfl) T.g_MOST_IN_SCHEDULE) (nomark _)))), ?_⟩
  obtain ⟨n, rfl, k⟩ := h
  exact s_ret (ev_op (ev_var rfl) ev_c rv_I0) k
/-- has_minute, the planner's own -/
theorem ok_has_minute (T : Txt K mg CP CS) (D : Dm K CP "has_minute" "Planner.has_minute" ["self", "minute"] s_Planner_has_minute) : C8.Met P w K mg base 1 CP "has_minute" (spHas CP) [] := by
  refine met_of T.clP D sc_Planner_has_minute (fun vs H Q E h => by obtain ⟨p, dx, l, e, m, rfl, _⟩ := h; rfl) fun f cdv A outer s H vs Q E hr h => ⟨_, (pss_one (ps_ret (pe_cmpR op_lt (pv 1) (pe_callB call_len_seq (by rfl) T.b_len PySem.boot_len (pa_cons (pe_fld (pv 0) rfl) pa_nil)) (nomark _)))), ?_⟩
  obtain ⟨p, dx, l, e, m, rfl, pl, k⟩ := h
  refine s_ret (v := .bl (decide (m < e.minutes))) (ev_is (ev_op (ev_var (v := .int (m : Nat)) rfl) (ev_nlen T (ev_var rfl) pl) rv_I0) (congrArg V.bl ?_)) k
  apply decide_eq_decide.mpr
  show ((m : Nat) : Int) < (e.arrivals.length : Nat) ↔ m < e.arrivals.length
  omega
/-! ### refusals -/
theorem ok_no_planner (D : Df K mg "no_planner" [] s_no_planner) : C8.Cal P w K mg base 1 "no_planner" (spL0 (-11)) [] := by
  refine cal_of D sc_no_planner (fun vs H Q E h => by obtain ⟨rfl, _⟩ := h; rfl) fun f cdv A outer s H vs Q E hr h => ⟨_, (pss_one (ps_ret (pe_lst (pa_cons (pe_un un_neg pe_int) pa_nil)))), ?_⟩
  obtain ⟨rfl, k⟩ := h
  exact s_retL (el_lst (ea_cons (ev_un ev_c ru_neg) ea_nil) (by decide)) k
theorem ok_no_such_minute (D : Df K mg "no_such_minute" [] s_no_such_minute) : C8.Cal P w K mg base 1 "no_such_minute" (spL0 (-2)) [] := by
  refine cal_of D sc_no_such_minute (fun vs H Q E h => by obtain ⟨rfl, _⟩ := h; rfl) fun f cdv A outer s H vs Q E hr h => ⟨_, (pss_one (ps_ret (pe_lst (pa_cons (pe_un un_neg pe_int) pa_nil)))), ?_⟩
  obtain ⟨rfl, k⟩ := h
  exact s_retL (el_lst (ea_cons (ev_un ev_c ru_neg) ea_nil) (by decide)) k
theorem ok_no_minutes (D : Df K mg "no_minutes" [] s_no_minutes) : C8.Cal P w K mg base 1 "no_minutes" (spL0 (-6)) [] := by
  refine cal_of D sc_no_minutes (fun vs H Q E h => by obtain ⟨rfl, _⟩ := h; rfl) fun f cdv A outer s H vs Q E hr h => ⟨_, (pss_one (ps_ret (pe_lst (pa_cons (pe_un un_neg pe_int) pa_nil)))), ?_⟩
  obtain ⟨rfl, k⟩ := h
  exact s_retL (el_lst (ea_cons (ev_un ev_c ru_neg) ea_nil) (by decide)) k
theorem ok_out_of_range (D : Df K mg "out_of_range" [] s_out_of_range) : C8.Cal P w K mg base 1 "out_of_range" (spL0 (-22)) [] := by
  refine cal_of D sc_out_of_range (fun vs H Q E h => by obtain ⟨rfl, _⟩ := h; rfl) fun f cdv A outer s H vs Q E hr h => ⟨_, (pss_one (ps_ret (pe_lst (pa_cons (pe_un un_neg pe_int) pa_nil)))), ?_⟩
  obtain ⟨rfl, k⟩ := h
  exact s_retL (el_lst (ea_cons (ev_un ev_c ru_neg) ea_nil) (by decide)) k
theorem ok_too_many_minutes (D : Df K mg "too_many_minutes" [] s_too_many_minutes) : C8.Cal P w K mg base 1 "too_many_minutes" (spL0 (-28)) [] := by
  refine cal_of D sc_too_many_minutes (fun vs H Q E h => by obtain ⟨rfl, _⟩ := h; rfl) fun f cdv A outer s H vs Q E hr h => ⟨_, (pss_one (ps_ret (pe_lst (pa_cons (pe_un un_neg pe_int) pa_nil)))), ?_⟩
  obtain ⟨rfl, k⟩ := h
  exact s_retL (el_lst (ea_cons (ev_un ev_c ru_neg) ea_nil) (by decide)) k
theorem ok_none_found (D : Df K mg "none_found" [] s_none_found) : C8.Cal P w K mg base 1 "none_found" (spL0 (-33)) [] := by
  refine cal_of D sc_none_found (fun vs H Q E h => by obtain ⟨rfl, _⟩ := h; rfl) fun f cdv A outer s H vs Q E hr h => ⟨_, (pss_one (ps_ret (pe_lst (pa_cons (pe_un un_neg pe_int) pa_nil)))), ?_⟩
  obtain ⟨rfl, k⟩ := h
  exact s_retL (el_lst (ea_cons (ev_un ev_c ru_neg) ea_nil) (by decide)) k
/-! ### changes -/
theorem len_run {CP : Addr} {k : Nat} {g : List Nat → Operation} : ∀ vs H Q E, spRun CP k g vs H Q E → vs.length = k + 1 := by
  rintro vs H Q E ⟨p, dx, l, e, ns, rfl, hn, _⟩
  simp [nv, hn]
theorem ok_add_minute (T : Txt K mg CP CS) (D : Df K mg "add_minute" ["planner", "arrivals"] s_add_minute) (c_arrivals_allowed : C8.Cal P w K mg base 1 "arrivals_allowed" (spB1 gAr) [])
    (c_out_of_range : C8.Cal P w K mg base 1 "out_of_range" (spL0 (-22)) []) (c_too_many_minutes : C8.Cal P w K mg base 1 "too_many_minutes" (spL0 (-28)) []) :
    C8.Cal P w K mg base 2 "add_minute" (spRun CP 1 fun ns => .addMinute (ns.getD 0 0)) [] := by
  refine cal_of D sc_add_minute len_run fun f cdv A outer s H vs Q E hr h => ⟨_, (pss_cons (ps_if (pt_not (pt_val (C8.pe_c c_arrivals_allowed hr (by decide) (by rfl) (pa_cons (pv 1) pa_nil)))) (pss_one (ps_ret (pe_c0 c_out_of_range hr (by decide) (by rfl)))) pss_nil)
      (pss_cons (ps_if (pt_cmpR op_ge (pe_callB call_len_seq (by rfl) T.b_len PySem.boot_len (pa_cons (pe_fld (pv 0) rfl) pa_nil)) (C8.pe_gc (by rfl) T.g_MOST_MINUTES) (nomark _)) (pss_one (ps_ret (pe_c0 c_too_many_minutes hr (by decide) (by rfl)))) pss_nil)
      (pss_cons (ps_expr (pe_bm PySem.F.plainAttrs_list PySem.F.slot_list_append PySem.F.type_list_append mt_append (pe_fld (pv 0) rfl) (pa_cons (pv 1) pa_nil)))
      (pss_one (ps_ret (pe_lst (pa_cons (pe_op op_sub (pe_callB call_len_seq (by rfl) T.b_len PySem.boot_len (pa_cons (pe_fld (pv 0) rfl) pa_nil)) pe_int) pa_nil))))))), ?_⟩
  obtain ⟨p, dx, l, e, ns, rfl, hn, pl, ok, k⟩ := h
  obtain ⟨n, rfl⟩ := List.length_eq_one_iff.mp hn
  refine q_when (et_not (et_B1 (ev_var rfl))) (fun hb H1 e1 => ?_) fun hb H1 e1 => ?_
  · have hb' : 40 < n := by simp [gAr] at hb; omega
    have hk : Planner.run ⟨e⟩ (.addMinute n) = (⟨e⟩, .error (-22)) := if_pos hb'
    exact s_retL el_L0 fun a H2 ha x2 h2 => Back.query (r := Planner.run ⟨e⟩ (.addMinute n)) k (by rw [hk]) pl e1 ha x2 h2 (by rw [hk]; rfl)
  · have hb' : ¬ 40 < n := by simp [gAr] at hb; omega
    refine q_when (et_ge (ev_nlen T (ev_var rfl) (pl.mono e1)) ev_c) (fun hc H2 e2 => ?_) fun hc H2 e2 => ?_
    · have hc' : 10 ≤ e.minutes := by have := of_decide_eq_true hc; show 10 ≤ e.arrivals.length; omega
      have hk : Planner.run ⟨e⟩ (.addMinute n) = (⟨e⟩, .error (-28)) := (if_neg hb').trans (if_pos hc')
      exact s_retL el_L0 fun a H3 ha x3 h3 => Back.query (r := Planner.run ⟨e⟩ (.addMinute n)) k (by rw [hk]) pl (e1.trans e2) ha x3 h3 (by rw [hk]; rfl)
    · have hc' : ¬ 10 ≤ e.minutes := by have := of_decide_eq_false hc; show ¬ 10 ≤ e.arrivals.length; omega
      have hk : Planner.run ⟨e⟩ (.addMinute n) = (⟨{ e with arrivals := e.arrivals ++ [n] }⟩, .number e.minutes) := (if_neg hb').trans (if_neg hc')
      have pl2 := (pl.mono e1).mono e2
      refine q_app pl2.li (ev_ar T (ev_var rfl) pl2) (ev_var rfl) (by rw [nv_len]; have := ok.len; omega) fun H3 e3 => ?_
      have pl3 : PlanAt CP (upd H3 l (.lst (nv (e.arrivals ++ [n])))) p dx l { e with arrivals := e.arrivals ++ [n] } := by
        refine ⟨?_, upd_same⟩
        rw [upd_ne pl.ne]
        exact (pl2.mono e3).ob
      have hl : nv e.arrivals ++ [V.int (n : Nat)] = nv (e.arrivals ++ [n]) := by rw [nv_append]; rfl
      have hl' : (upd H3 l (.lst (nv e.arrivals ++ [V.int (n : Nat)]))) = upd H3 l (.lst (nv (e.arrivals ++ [n]))) := by rw [hl]
      show tRet _ _ _ (upd H3 l (.lst (nv e.arrivals ++ [V.int (n : Nat)])))
      rw [hl']
      refine s_retL (el_lst (ea_cons (ev_sub (ev_nlen T (ev_var rfl) pl3) ev_c) ea_nil) (by show 1 ≤ 100000; decide)) fun a H4 ha x4 h4 => k H4 a ?_ ?_ ?_ ?_
      · have nl : a ≠ l := fun q => by rw [q, upd_same] at ha; cases ha
        rw [upd_ne nl] at ha
        exact fresh_back ((e1.trans e2).trans e3) ha
      · rw [h4]
        show some (HO.lst [V.int (((e.arrivals ++ [n]).length : Nat) - 1)]) = some (.lst (row (Planner.run ⟨e⟩ (.addMinute n)).2))
        rw [hk]
        have : (((e.arrivals ++ [n]).length : Nat) : Int) - 1 = (e.arrivals.length : Nat) := by simp
        rw [this]; rfl
      · show PlanAt CP H4 p dx l (Planner.run ⟨e⟩ (.addMinute n)).1.entrance
        rw [hk]
        exact pl3.mono x4
      · intro b o hb _ hbl
        refine x4 _ _ ?_
        rw [upd_ne hbl]
        exact e3 _ _ (e2 _ _ (e1 _ _ hb))
end
end GW
set_option Elab.async false
set_option linter.all false
set_option maxRecDepth 100000
set_option maxHeartbeats 4000000
namespace GW
open PySem PySem.Spec PyProof.Rows L2 Evl
open Kv435 (Entrance Planner Operation Response)
section
variable {K : PySem.W.Frag} {σ : L2.St} {H : Hp} {ta tb te tv : TE} {D : Ends} {tz : TS} {v y : V} {C p dx l : Addr} {fs : List (Str × V)} {f : Str} {xs : List V}
theorem s_pop (hl : H l = some (.lst xs)) (ha : Ev ta σ H (.ref l)) (hy : xs[xs.length - 1]? = some y) (k : ∀ H1, Ex H H1 → D.nx σ (upd H1 l (.lst xs.dropLast))) : tDrop (tBM0 K "list" rPop ta) D σ H :=
  ha H (Ex.refl H) _ fun H1 e1 => ⟨Or.inl ⟨rfl, xs, sq_of (e1 l _ hl)⟩, l, xs, y, rfl, rfl, e1 l _ hl, hy, k H1 e1⟩
theorem q_pop (hl : H l = some (.lst xs)) (ha : Ev ta σ H (.ref l)) (hy : xs[xs.length - 1]? = some y) (k : ∀ H1, Ex H H1 → tz D σ (upd H1 l (.lst xs.dropLast))) : tSeq (tDrop (tBM0 K "list" rPop ta)) tz D σ H :=
  s_pop (D := { D with nx := tz D }) hl ha hy k
theorem s_fld (hv : Ev tv σ H y) (ha : Ev ta σ H (.ref p)) (ho : H p = some (.ins C dx fs)) (hc : Cls K C) (hn : NoAttr K C f) (hl : fs.length < 1000) (k : ∀ H1, Ex H H1 → D.nx σ (upd H1 p (.ins C dx (putF f y fs)))) : sFld K ta tv f D σ H :=
  hv H (Ex.refl H) _ fun H1 e1 => ha H1 e1 _ fun H2 e2 => ⟨p, C, dx, fs, rfl, e2 _ _ (e1 _ _ ho), hc, hn, hl, k H2 (e1.trans e2)⟩
theorem q_fld (hv : Ev tv σ H y) (ha : Ev ta σ H (.ref p)) (ho : H p = some (.ins C dx fs)) (hc : Cls K C) (hn : NoAttr K C f) (hl : fs.length < 1000) (k : ∀ H1, Ex H H1 → tz D σ (upd H1 p (.ins C dx (putF f y fs)))) : tSeq (sFld K ta tv f) tz D σ H :=
  s_fld (D := { D with nx := tz D }) hv ha ho hc hn hl k
/-- the value a new list -/
theorem s_fldL {ys : List V} (hv : EvL tv σ H ys) (ha : Ev ta σ H (.ref p)) (ho : H p = some (.ins C dx fs)) (hc : Cls K C) (hn : NoAttr K C f) (hl : fs.length < 1000) (k : ∀ a H1, H a = none → Ex H H1 → H1 a = some (.lst ys) → D.nx σ (upd H1 p (.ins C dx (putF f (.ref a) fs)))) : sFld K ta tv f D σ H :=
  hv H (Ex.refl H) _ fun a H1 ha1 e1 h1 => ha H1 e1 _ fun H2 e2 => ⟨p, C, dx, fs, rfl, e2 _ _ (e1 _ _ ho), hc, hn, hl, k a H2 ha1 (e1.trans e2) (e2 _ _ h1)⟩
end
section
variable {P : Program} {w : World} {K : PySem.W.Frag} {mg : Str → Option Value} {base : Heap} {CP CS : Addr}
theorem two_of {α : Type} {l : List α} (h : l.length = 2) : ∃ a b, l = [a, b] := by
  match l, h with
  | [a, b], _ => exact ⟨a, b, rfl⟩
theorem ok_set_arrivals (T : Txt K mg CP CS) (D : Df K mg "set_arrivals" ["planner", "minute", "arrivals"] s_set_arrivals) (c_Planner_has_minute : C8.Met P w K mg base 1 CP "has_minute" (spHas CP) []) (c_arrivals_allowed : C8.Cal P w K mg base 1 "arrivals_allowed" (spB1 gAr) [])
    (c_out_of_range : C8.Cal P w K mg base 1 "out_of_range" (spL0 (-22)) []) (c_no_such_minute : C8.Cal P w K mg base 1 "no_such_minute" (spL0 (-2)) []) :
    C8.Cal P w K mg base 2 "set_arrivals" (spRun CP 2 fun ns => .setArrivals (ns.getD 0 0) (ns.getD 1 0)) [] := by
  refine cal_of D sc_set_arrivals len_run fun f cdv A outer s H vs Q E hr h => ⟨_, (pss_cons (ps_if (pt_not (pt_val (C8.pe_mt c_Planner_has_minute hr (by decide) (pv 0) (pa_cons (pv 1) pa_nil)))) (pss_one (ps_ret (pe_c0 c_no_such_minute hr (by decide) (by rfl)))) pss_nil)
      (pss_cons (ps_if (pt_not (pt_val (C8.pe_c c_arrivals_allowed hr (by decide) (by rfl) (pa_cons (pv 2) pa_nil)))) (pss_one (ps_ret (pe_c0 c_out_of_range hr (by decide) (by rfl)))) pss_nil)
      (pss_cons (ps_set (i := 3) sc_set_arrivals.nd rfl (Or.inl rfl) (pe_ix ix_list (pe_fld (pv 0) rfl) (pv 1) (fun _ _ => rfl)))
      (pss_cons (ps_asg (pv 2) (pg_sub (pe_fld (pv 0) rfl) (pv 1) set_list))
      (pss_one (ps_ret (pe_lst (pa_cons (pv 3) pa_nil)))))))), ?_⟩
  obtain ⟨p, dx, l, e, ns, rfl, hn, pl, ok, k⟩ := h
  obtain ⟨m, n, rfl⟩ := two_of hn
  refine q_when (et_not (et_B (ev_has (ev_var rfl) (ev_var (v := .int (m : Nat)) rfl) pl))) (fun hb H1 e1 => ?_) fun hb H1 e1 => ?_
  · have hb' : e.minutes ≤ m := by simp at hb; omega
    have hk : Planner.run ⟨e⟩ (.setArrivals m n) = (⟨e⟩, .error (-2)) := if_pos hb'
    exact s_retL el_L0 fun a H2 ha x2 h2 => Back.query (r := Planner.run ⟨e⟩ (.setArrivals m n)) k (by rw [hk]) pl e1 ha x2 h2 (by rw [hk]; rfl)
  · have hb' : ¬ e.minutes ≤ m := by simp at hb; omega
    refine q_when (et_not (et_B1 (ev_var rfl))) (fun hc H2 e2 => ?_) fun hc H2 e2 => ?_
    · have hc' : 40 < n := by simp [gAr] at hc; omega
      have hk : Planner.run ⟨e⟩ (.setArrivals m n) = (⟨e⟩, .error (-22)) := (if_neg hb').trans (if_pos hc')
      exact s_retL el_L0 fun a H3 ha x3 h3 => Back.query (r := Planner.run ⟨e⟩ (.setArrivals m n)) k (by rw [hk]) pl (e1.trans e2) ha x3 h3 (by rw [hk]; rfl)
    · have hc' : ¬ 40 < n := by simp [gAr] at hc; omega
      have hk : Planner.run ⟨e⟩ (.setArrivals m n) = (⟨e.withArrivals m n⟩, .number (e.arrivals.getD m 0)) := (if_neg hb').trans (if_neg hc')
      have hm : m < e.arrivals.length := by have : ¬ e.arrivals.length ≤ m := hb'; omega
      have pl2 := (pl.mono e1).mono e2
      refine q_asg (ev_op (ev_ar T (ev_var rfl) pl2) (ev_var rfl) (rv_ixL (sq_of pl2.li) (atI_nat (nv_get hm)))) fun H3 e3 => ?_
      have pl3 := pl2.mono e3
      refine q_setL pl3.li (ev_var rfl) (ev_ar T (ev_var rfl) pl3) (ev_var (v := .int (m : Nat)) rfl) (by rw [nv_len]; exact hm) fun H4 e4 => ?_
      have pl4 : PlanAt CP (upd H4 l (.lst ((nv e.arrivals).set m (.int (n : Nat))))) p dx l (e.withArrivals m n) := by
        refine ⟨?_, ?_⟩
        · rw [upd_ne pl.ne]
          exact (pl3.mono e4).ob
        · rw [upd_same, nv_set]
          rfl
      refine s_retL (el_lst (ea_cons (ev_var rfl) ea_nil) (by show 1 ≤ 100000; decide)) fun a H5 ha x5 h5 => k H5 a ?_ ?_ ?_ ?_
      · have nl : a ≠ l := fun q => by rw [q, upd_same] at ha; cases ha
        rw [upd_ne nl] at ha
        exact fresh_back (((e1.trans e2).trans e3).trans e4) ha
      · rw [h5]
        show _ = some (HO.lst (row (Planner.run ⟨e⟩ (.setArrivals m n)).2))
        rw [hk]
        rfl
      · show PlanAt CP H5 p dx l (Planner.run ⟨e⟩ (.setArrivals m n)).1.entrance
        rw [hk]
        exact pl4.mono x5
      · intro b o hb _ hbl
        refine x5 _ _ ?_
        rw [upd_ne hbl]
        exact e4 _ _ (e3 _ _ (e2 _ _ (e1 _ _ hb)))
theorem ok_remove_last_minute (T : Txt K mg CP CS) (D : Df K mg "remove_last_minute" ["planner"] s_remove_last_minute) (c_no_minutes : C8.Cal P w K mg base 1 "no_minutes" (spL0 (-6)) []) :
    C8.Cal P w K mg base 2 "remove_last_minute" (spRun CP 0 fun _ => .removeLastMinute) [] := by
  refine cal_of D sc_remove_last_minute len_run fun f cdv A outer s H vs Q E hr h => ⟨_, (pss_cons (ps_if (pt_cmpR op_eq (pe_callB call_len_seq (by rfl) T.b_len PySem.boot_len (pa_cons (pe_fld (pv 0) rfl) pa_nil)) pe_int (nomark _)) (pss_one (ps_ret (pe_c0 c_no_minutes hr (by decide) (by rfl)))) pss_nil)
      (pss_cons (ps_expr (pe_bm0 PySem.F.plainAttrs_list PySem.F.slot_list_pop PySem.F.type_list_pop mt_pop (pe_fld (pv 0) rfl)))
      (pss_one (ps_ret (pe_lst (pa_cons (pe_callB call_len_seq (by rfl) T.b_len PySem.boot_len (pa_cons (pe_fld (pv 0) rfl) pa_nil)) pa_nil)))))), ?_⟩
  obtain ⟨p, dx, l, e, ns, rfl, hn, pl, ok, k⟩ := h
  obtain rfl := List.eq_nil_of_length_eq_zero hn
  refine q_when (et_eqi (ev_nlen T (ev_var rfl) pl) ev_c) (fun hb H1 e1 => ?_) fun hb H1 e1 => ?_
  · have hb' : e.minutes = 0 := by have := of_decide_eq_true hb; show e.arrivals.length = 0; omega
    have hk : Planner.run ⟨e⟩ .removeLastMinute = (⟨e⟩, .error (-6)) := if_pos hb'
    exact s_retL el_L0 fun a H2 ha x2 h2 => Back.query (r := Planner.run ⟨e⟩ .removeLastMinute) k (by rw [hk]) pl e1 ha x2 h2 (by rw [hk]; rfl)
  · have hb' : ¬ e.minutes = 0 := by have := of_decide_eq_false hb; show ¬ e.arrivals.length = 0; omega
    have hk : Planner.run ⟨e⟩ .removeLastMinute = (⟨{ e with arrivals := e.arrivals.dropLast }⟩, .number (e.minutes - 1)) := if_neg hb'
    have hm : 0 < e.arrivals.length := by have : ¬ e.arrivals.length = 0 := hb'; omega
    have pl1 := pl.mono e1
    refine q_pop pl1.li (ev_ar T (ev_var rfl) pl1) (by rw [nv_len]; exact nv_get (by omega)) fun H2 e2 => ?_
    have pl2 : PlanAt CP (upd H2 l (.lst (nv e.arrivals).dropLast)) p dx l { e with arrivals := e.arrivals.dropLast } := by
      refine ⟨?_, ?_⟩
      · rw [upd_ne pl.ne]
        exact (pl1.mono e2).ob
      · rw [upd_same, nv_dropLast]
    refine s_retL (el_lst (ea_cons (ev_nlen T (ev_var rfl) pl2) ea_nil) (by show 1 ≤ 100000; decide)) fun a H5 ha x5 h5 => k H5 a ?_ ?_ ?_ ?_
    · have nl : a ≠ l := fun q => by rw [q, upd_same] at ha; cases ha
      rw [upd_ne nl] at ha
      exact fresh_back (e1.trans e2) ha
    · rw [h5]
      show some (HO.lst [V.int ((e.arrivals.dropLast.length : Nat) : Int)]) = some (HO.lst (row (Planner.run ⟨e⟩ .removeLastMinute).2))
      rw [hk, List.length_dropLast]
      rfl
    · show PlanAt CP H5 p dx l (Planner.run ⟨e⟩ .removeLastMinute).1.entrance
      rw [hk]
      exact pl2.mono x5
    · intro b o hb _ hbl
      refine x5 _ _ ?_
      rw [upd_ne hbl]
      exact e2 _ _ (e1 _ _ hb)
theorem pF_len (e : Entrance) (l : Addr) : (pF e l).length < 1000 := by show 4 < 1000; decide
theorem vs_pg {e : Entrance} (ok : Ok e) (n : Nat) : Kv435.validSettings n e.maxGates e.maxWait = gPg n := by
  have := ok.mg; have := ok.mw
  simp only [Kv435.validSettings, gPg]
  rw [decide_eq_true (show e.maxGates ≤ 6 from ok.mg), decide_eq_true (show e.maxWait ≤ 6 from ok.mw), Bool.and_true, Bool.and_true]
  congr 1 <;> (apply decide_eq_decide.mpr; omega)
theorem vs_mg {e : Entrance} (ok : Ok e) (n : Nat) : Kv435.validSettings e.perGate n e.maxWait = gMg n := by
  simp only [Kv435.validSettings, gMg]
  rw [decide_eq_true (show 1 ≤ e.perGate from ok.g1), decide_eq_true (show e.perGate ≤ 9 from ok.g2), decide_eq_true (show e.maxWait ≤ 6 from ok.mw), Bool.and_true, Bool.and_true, Bool.true_and]
  apply decide_eq_decide.mpr; omega
theorem vs_mw {e : Entrance} (ok : Ok e) (n : Nat) : Kv435.validSettings e.perGate e.maxGates n = gMg n := by
  simp only [Kv435.validSettings, gMg]
  rw [decide_eq_true (show 1 ≤ e.perGate from ok.g1), decide_eq_true (show e.perGate ≤ 9 from ok.g2), decide_eq_true (show e.maxGates ≤ 6 from ok.mg), Bool.and_true, Bool.true_and]
  apply decide_eq_decide.mpr; omega
/-- a setting is put: what stands behind it -/
theorem put_back {H H1 H2 H3 : Hp} {Q : VK} {p dx l a : Addr} {e e' : Entrance} {o : Operation} {fs : List (Str × V)} {xs : List V} (k : Back CP H Q p dx l (Planner.run ⟨e⟩ o)) (pl : PlanAt CP H p dx l e) (x1 : Ex H H1) (hf : fs = pF e' l) (hl : e'.arrivals = e.arrivals)
    (h1 : (Planner.run ⟨e⟩ o).1 = ⟨e'⟩) (ha : upd H1 p (.ins CP dx fs) a = none) (x3 : Ex (upd H1 p (.ins CP dx fs)) H3) (h3 : H3 a = some (.lst xs)) (hx : xs = row (Planner.run ⟨e⟩ o).2) : Q (.ref a) H3 := by
  subst hx
  subst hf
  refine k H3 a ?_ h3 ?_ fun b o hb hbp _ => ?_
  · have nl : a ≠ p := fun q => by rw [q, upd_same] at ha; cases ha
    rw [upd_ne nl] at ha
    exact fresh_back x1 ha
  · rw [h1]
    refine ⟨x3 _ _ upd_same, x3 _ _ ?_⟩
    rw [upd_ne pl.ne.symm]
    show H1 l = some (.lst (nv e'.arrivals))
    rw [hl]
    exact (pl.mono x1).li
  · refine x3 _ _ ?_
    rw [upd_ne hbp]
    exact x1 _ _ hb
theorem ok_set_per_gate (T : Txt K mg CP CS) (D : Df K mg "set_per_gate" ["planner", "people"] s_set_per_gate) (c_per_gate_allowed : C8.Cal P w K mg base 1 "per_gate_allowed" (spB1 gPg) [])
    (c_out_of_range : C8.Cal P w K mg base 1 "out_of_range" (spL0 (-22)) []) :
    C8.Cal P w K mg base 2 "set_per_gate" (spRun CP 1 fun ns => .setPerGate (ns.getD 0 0)) [] := by
  refine cal_of D sc_set_per_gate len_run fun f cdv A outer s H vs Q E hr h => ⟨_, (pss_cons (ps_if (pt_not (pt_val (C8.pe_c c_per_gate_allowed hr (by decide) (by rfl) (pa_cons (pv 1) pa_nil)))) (pss_one (ps_ret (pe_c0 c_out_of_range hr (by decide) (by rfl)))) pss_nil)
      (pss_cons (ps_set (i := 2) sc_set_per_gate.nd rfl (Or.inl rfl) (pe_fld (pv 0) rfl))
      (pss_cons (ps_fld (pv 0) (pv 1) rfl)
      (pss_one (ps_ret (pe_lst (pa_cons (pv 2) pa_nil))))))), ?_⟩
  obtain ⟨p, dx, l, e, ns, rfl, hn, pl, ok, k⟩ := h
  obtain ⟨n, rfl⟩ := List.length_eq_one_iff.mp hn
  have hv := vs_pg ok n
  refine q_when (et_not (et_B1 (ev_var rfl))) (fun hb H1 e1 => ?_) fun hb H1 e1 => ?_
  · have hb' : Kv435.validSettings n e.maxGates e.maxWait = false := by rw [hv]; simpa using hb
    have hk : Planner.run ⟨e⟩ (.setPerGate n) = (⟨e⟩, .error (-22)) := if_pos hb'
    exact s_retL el_L0 fun a H2 ha x2 h2 => Back.query (r := Planner.run ⟨e⟩ (.setPerGate n)) k (by rw [hk]) pl e1 ha x2 h2 (by rw [hk]; rfl)
  · have hb' : ¬ Kv435.validSettings n e.maxGates e.maxWait = false := by rw [hv]; simpa using hb
    have hk : Planner.run ⟨e⟩ (.setPerGate n) = (⟨{ e with perGate := n }⟩, .number e.perGate) := if_neg hb'
    refine q_asg (ev_pg T (ev_var rfl) (pl.mono e1)) fun H2 e2 => ?_
    refine q_fld (ev_var rfl) (ev_var rfl) (e2 _ _ (e1 _ _ pl.ob)) T.clP T.aPg (pF_len _ _) fun H3 e3 => ?_
    exact s_retL (el_lst (ea_cons (ev_var rfl) ea_nil) (by show 1 ≤ 100000; decide)) fun a H4 ha x4 h4 => put_back (H2 := H3) k pl ((e1.trans e2).trans e3) (pF_put_pg e l n) rfl (by show (Planner.run ⟨e⟩ (.setPerGate n)).1 = _; rw [hk]) ha x4 h4 (by show _ = row (Planner.run ⟨e⟩ (.setPerGate n)).2; rw [hk]; rfl)
theorem ok_set_max_gates (T : Txt K mg CP CS) (D : Df K mg "set_max_gates" ["planner", "gates"] s_set_max_gates) (c_max_gates_allowed : C8.Cal P w K mg base 1 "max_gates_allowed" (spB1 gMg) [])
    (c_out_of_range : C8.Cal P w K mg base 1 "out_of_range" (spL0 (-22)) []) :
    C8.Cal P w K mg base 2 "set_max_gates" (spRun CP 1 fun ns => .setMaxGates (ns.getD 0 0)) [] := by
  refine cal_of D sc_set_max_gates len_run fun f cdv A outer s H vs Q E hr h => ⟨_, (pss_cons (ps_if (pt_not (pt_val (C8.pe_c c_max_gates_allowed hr (by decide) (by rfl) (pa_cons (pv 1) pa_nil)))) (pss_one (ps_ret (pe_c0 c_out_of_range hr (by decide) (by rfl)))) pss_nil)
      (pss_cons (ps_set (i := 2) sc_set_max_gates.nd rfl (Or.inl rfl) (pe_fld (pv 0) rfl))
      (pss_cons (ps_fld (pv 0) (pv 1) rfl)
      (pss_one (ps_ret (pe_lst (pa_cons (pv 2) pa_nil))))))), ?_⟩
  obtain ⟨p, dx, l, e, ns, rfl, hn, pl, ok, k⟩ := h
  obtain ⟨n, rfl⟩ := List.length_eq_one_iff.mp hn
  have hv := vs_mg ok n
  refine q_when (et_not (et_B1 (ev_var rfl))) (fun hb H1 e1 => ?_) fun hb H1 e1 => ?_
  · have hb' : Kv435.validSettings e.perGate n e.maxWait = false := by rw [hv]; simpa using hb
    have hk : Planner.run ⟨e⟩ (.setMaxGates n) = (⟨e⟩, .error (-22)) := if_pos hb'
    exact s_retL el_L0 fun a H2 ha x2 h2 => Back.query (r := Planner.run ⟨e⟩ (.setMaxGates n)) k (by rw [hk]) pl e1 ha x2 h2 (by rw [hk]; rfl)
  · have hb' : ¬ Kv435.validSettings e.perGate n e.maxWait = false := by rw [hv]; simpa using hb
    have hk : Planner.run ⟨e⟩ (.setMaxGates n) = (⟨{ e with maxGates := n }⟩, .number e.maxGates) := if_neg hb'
    refine q_asg (ev_mg T (ev_var rfl) (pl.mono e1)) fun H2 e2 => ?_
    refine q_fld (ev_var rfl) (ev_var rfl) (e2 _ _ (e1 _ _ pl.ob)) T.clP T.aMg (pF_len _ _) fun H3 e3 => ?_
    exact s_retL (el_lst (ea_cons (ev_var rfl) ea_nil) (by show 1 ≤ 100000; decide)) fun a H4 ha x4 h4 => put_back (H2 := H3) k pl ((e1.trans e2).trans e3) (pF_put_mg e l n) rfl (by show (Planner.run ⟨e⟩ (.setMaxGates n)).1 = _; rw [hk]) ha x4 h4 (by show _ = row (Planner.run ⟨e⟩ (.setMaxGates n)).2; rw [hk]; rfl)
theorem ok_set_max_wait (T : Txt K mg CP CS) (D : Df K mg "set_max_wait" ["planner", "minutes"] s_set_max_wait) (c_max_wait_allowed : C8.Cal P w K mg base 1 "max_wait_allowed" (spB1 gMg) [])
    (c_out_of_range : C8.Cal P w K mg base 1 "out_of_range" (spL0 (-22)) []) :
    C8.Cal P w K mg base 2 "set_max_wait" (spRun CP 1 fun ns => .setMaxWait (ns.getD 0 0)) [] := by
  refine cal_of D sc_set_max_wait len_run fun f cdv A outer s H vs Q E hr h => ⟨_, (pss_cons (ps_if (pt_not (pt_val (C8.pe_c c_max_wait_allowed hr (by decide) (by rfl) (pa_cons (pv 1) pa_nil)))) (pss_one (ps_ret (pe_c0 c_out_of_range hr (by decide) (by rfl)))) pss_nil)
      (pss_cons (ps_set (i := 2) sc_set_max_wait.nd rfl (Or.inl rfl) (pe_fld (pv 0) rfl))
      (pss_cons (ps_fld (pv 0) (pv 1) rfl)
      (pss_one (ps_ret (pe_lst (pa_cons (pv 2) pa_nil))))))), ?_⟩
  obtain ⟨p, dx, l, e, ns, rfl, hn, pl, ok, k⟩ := h
  obtain ⟨n, rfl⟩ := List.length_eq_one_iff.mp hn
  have hv := vs_mw ok n
  refine q_when (et_not (et_B1 (ev_var rfl))) (fun hb H1 e1 => ?_) fun hb H1 e1 => ?_
  · have hb' : Kv435.validSettings e.perGate e.maxGates n = false := by rw [hv]; simpa using hb
    have hk : Planner.run ⟨e⟩ (.setMaxWait n) = (⟨e⟩, .error (-22)) := if_pos hb'
    exact s_retL el_L0 fun a H2 ha x2 h2 => Back.query (r := Planner.run ⟨e⟩ (.setMaxWait n)) k (by rw [hk]) pl e1 ha x2 h2 (by rw [hk]; rfl)
  · have hb' : ¬ Kv435.validSettings e.perGate e.maxGates n = false := by rw [hv]; simpa using hb
    have hk : Planner.run ⟨e⟩ (.setMaxWait n) = (⟨{ e with maxWait := n }⟩, .number e.maxWait) := if_neg hb'
    refine q_asg (ev_mw T (ev_var rfl) (pl.mono e1)) fun H2 e2 => ?_
    refine q_fld (ev_var rfl) (ev_var rfl) (e2 _ _ (e1 _ _ pl.ob)) T.clP T.aMw (pF_len _ _) fun H3 e3 => ?_
    exact s_retL (el_lst (ea_cons (ev_var rfl) ea_nil) (by show 1 ≤ 100000; decide)) fun a H4 ha x4 h4 => put_back (H2 := H3) k pl ((e1.trans e2).trans e3) (pF_put_mw e l n) rfl (by show (Planner.run ⟨e⟩ (.setMaxWait n)).1 = _; rw [hk]) ha x4 h4 (by show _ = row (Planner.run ⟨e⟩ (.setMaxWait n)).2; rw [hk]; rfl)
end
end GW
set_option Elab.async false
set_option linter.all false
set_option maxRecDepth 100000
set_option maxHeartbeats 4000000
/-! facts about plain lists that the walk asks -/
namespace GT
open Kv435
def bad (e : Entrance) (s t : Nat) : Prop := e.perGate * (e.maxGates * (t + e.maxWait + 1 - s)) < sumBetween e.arrivals s t
instance (e : Entrance) (s t : Nat) : Decidable (bad e s t) := inferInstanceAs (Decidable (_ < _))
theorem noInf_iff_bad (e : Entrance) : NoInf e ↔ ∀ t, t < e.minutes → ∀ s, s ≤ t → ¬ bad e s t :=
  ⟨fun N t ht s hs => Nat.not_lt.mpr (N s t hs ht), fun h s t hs ht => Nat.not_lt.mp (h t ht s hs)⟩
theorem findSome_range {α : Type} {f : Nat → Option α} {b : α} {t : Nat} (h : f t = some b) (lo : ∀ i, i < t → f i = none) : ∀ n, t < n → (List.range n).findSome? f = some b
  | 0, hn => absurd hn (Nat.not_lt_zero t)
  | n + 1, hn => by
    rw [List.range_succ, List.findSome?_append]
    by_cases c : t < n
    · rw [findSome_range h lo n c]
      rfl
    · have e : t = n := by omega
      subst e
      have z : (List.range t).findSome? f = none := List.findSome?_eq_none_iff.mpr fun i hi => lo i (List.mem_range.mp hi)
      rw [z]
      simp [h]
theorem find_range {f : Nat → Bool} {t : Nat} (h : f t = true) (lo : ∀ i, i < t → f i = false) : ∀ n, t < n → (List.range n).find? f = some t
  | 0, hn => absurd hn (Nat.not_lt_zero t)
  | n + 1, hn => by
    rw [List.range_succ, List.find?_append]
    by_cases c : t < n
    · rw [find_range h lo n c]
      rfl
    · have e : t = n := by omega
      subst e
      have z : (List.range t).find? f = none := List.find?_eq_none.mpr fun i hi => by rw [lo i (List.mem_range.mp hi)]; exact Bool.false_ne_true
      rw [z]
      simp [h]
theorem inf_some {e : Entrance} {s t : Nat} (ht : t < e.minutes) (hs : s ≤ t) (lo : ∀ t', t' < t → ∀ s', s' ≤ t' → ¬ bad e s' t') (lo2 : ∀ s', s' < s → ¬ bad e s' t) (h : bad e s t) : e.infeasibleInterval = some (s, t) := by
  unfold Entrance.infeasibleInterval
  refine findSome_range ?_ ?_ _ ht
  · rw [find_range (f := fun s => decide (e.perGate * (e.maxGates * (t + e.maxWait + 1 - s)) < sumBetween e.arrivals s t)) (t := s) (decide_eq_true h) (fun i hi => decide_eq_false (lo2 i hi)) (t + 1) (by omega)]
    rfl
  · intro i hi
    rw [Option.map_eq_none_iff, List.find?_eq_none]
    intro s' hs'
    have := lo i hi s' (by have := List.mem_range.mp hs'; omega)
    simpa [bad] using this
theorem possible_of_none {e : Entrance} (hp : 1 ≤ e.perGate) : e.isPossible = e.infeasibleInterval.isNone := by
  cases h : e.infeasibleInterval with
  | none => exact (possible_iff hp).mpr (infInterval_none.mp h)
  | some x =>
    cases q : e.isPossible with
    | false => rfl
    | true =>
      have := infInterval_none.mpr ((possible_iff hp).mp q)
      rw [this] at h; cases h
theorem best_some {e : Entrance} (hp : 1 ≤ e.perGate) (N : NoInf e) : e.bestSchedule = some e.lateSchedule := if_pos ((possible_iff hp).mpr N)
theorem best_none {e : Entrance} (hp : 1 ≤ e.perGate) (N : ¬ NoInf e) : e.bestSchedule = none := if_neg fun h => N ((possible_iff hp).mp h)
theorem take_drop_clip {α : Type} (a : List α) (s t : Nat) : (a.drop (min s a.length)).take (min t a.length - min s a.length) = (a.drop s).take (t - s) := by
  by_cases c : s ≤ a.length
  · rw [Nat.min_eq_left c]
    by_cases d : t ≤ a.length
    · rw [Nat.min_eq_left d]
    · rw [Nat.min_eq_right (by omega), List.take_of_length_le (by simp), List.take_of_length_le (by simp; omega)]
  · rw [Nat.min_eq_right (show a.length ≤ s by omega), List.drop_eq_nil_of_le (Nat.le_refl _), List.drop_eq_nil_of_le (by omega)]
    simp
theorem sum_ofNat (l : List Nat) : (l.map Int.ofNat).sum = ((l.sum : Nat) : Int) := by
  induction l with
  | nil => rfl
  | cons a l ih =>
    rw [List.map_cons, List.sum_cons, List.sum_cons, ih, Int.natCast_add]
    rfl
theorem need_int {n d : Nat} (hd : 1 ≤ d) : ((n : Int) + (d : Int) - 1) / (d : Int) = ((divideUp n d : Nat) : Int) := by
  unfold divideUp
  have : (n : Int) + (d : Int) - 1 = ((n + (d - 1) : Nat) : Int) := by omega
  rw [this, ← Int.natCast_ediv]
theorem sum_drop (g : List Nat) (s : Nat) : ps g s + (g.drop s).sum = ps g g.length := by
  unfold ps
  rw [List.take_length]
  conv => rhs; rw [← List.take_append_drop s g]
  rw [List.sum_append]
theorem sumBetween_le {a : List Nat} {M : Nat} (h : ∀ x ∈ a, x ≤ M) (s t : Nat) : sumBetween a s t ≤ M * (t + 1 - s) := by
  by_cases c : s ≤ t + 1
  · have e := sb_ps a s t c
    have := ps_gap' a M (getD_le_of_all h) c
    omega
  · have : t + 1 - s = 0 := by omega
    unfold sumBetween
    rw [this]
    simp
end GT
namespace GW
open PySem PySem.Spec PyProof.Rows L2 Evl
open Kv435 (Entrance Planner Operation Response sumBetween)
open GT
theorem cut_nv (a : List Nat) (s t : Nat) : cutV (nv a) (some (s : Int)) (some (t : Int)) = nv ((a.drop s).take (t - s)) := by
  have q := take_drop_clip (nv a) s t
  rw [nv_len] at q
  unfold cutV
  rw [HT.sIx_nat, HT.sIx_nat, nv_len, q]
  simp [nv, List.map_drop, List.map_take]
theorem cut_nv0 (a : List Nat) (s : Nat) : cutV (nv a) (some (s : Int)) none = nv (a.drop s) := by
  unfold cutV
  rw [HT.sIx_nat, HT.sIx_none, nv_len]
  by_cases c : s ≤ a.length
  · rw [Nat.min_eq_left c, List.take_of_length_le (by simp [nv])]
    simp [nv, List.map_drop]
  · rw [Nat.min_eq_right (show a.length ≤ s by omega), List.drop_eq_nil_of_le (by simp [nv]), List.drop_eq_nil_of_le (by omega)]
    simp [nv]
section
variable {K : PySem.W.Frag} {σ : L2.St} {H : Hp} {te : TE}
/-- sum of a new list -/
theorem ev_sumN {xs : List Nat} (h : EvL te σ H (nv xs)) : Ev (tCB (rSum K) (tCons te tNil)) σ H (.int (xs.sum : Nat)) := fun H1 e Q q =>
  h H1 e _ fun p H2 _ e2 h2 => ⟨p, xs.map Int.ofNat, rfl, sq_of h2, by rw [sum_ofNat]; exact q H2 e2⟩
theorem ev_maxI {ta tb : TE} {i j : Int} (ha : Ev ta σ H (.int i)) (hb : Ev tb σ H (.int j)) : Ev (tCB rMax2 (tCons ta (tCons tb tNil))) σ H (.int (if j > i then j else i)) := ev_max2 ha hb
theorem ev_minI {ta tb : TE} {i j : Int} (ha : Ev ta σ H (.int i)) (hb : Ev tb σ H (.int j)) : Ev (tCB (fun xs H Q => ∃ i j, xs = [.int i, .int j] ∧ Q (.int (if j < i then j else i)) H) (tCons ta (tCons tb tNil))) σ H (.int (if j < i then j else i)) := fun H1 e Q q =>
  ha H1 e _ fun H2 e2 => hb H2 (e.trans e2) _ fun H3 e3 => ⟨i, j, rfl, q H3 (e2.trans e3)⟩
end
section
variable {P : Program} {w : World} {K : PySem.W.Frag} {mg : Str → Option Value} {base : Heap} {CP CS : Addr}
/-- a planner and numbers in, a value out -/
def spPV (CP : Addr) (k : Nat) (ask : Entrance → List Nat → Prop) (g : Entrance → List Nat → V) : Sp := fun vs H Q _ => ∃ (p dx l : Addr) (e : Entrance) (ns : List Nat), vs = .ref p :: nv ns ∧ ns.length = k ∧ PlanAt CP H p dx l e ∧ Ok e ∧ ask e ns ∧ RetV (g e ns) H Q
theorem len_PV {CP : Addr} {k : Nat} {ask : Entrance → List Nat → Prop} {g : Entrance → List Nat → V} : ∀ vs H Q E, spPV CP k ask g vs H Q E → vs.length = k + 1 := by
  rintro vs H Q E ⟨p, dx, l, e, ns, rfl, hn, _⟩
  simp [nv, hn]
theorem SpPV {CP : Addr} {k : Nat} {ask : Entrance → List Nat → Prop} {g : Entrance → List Nat → V} {H : Hp} {p dx l : Addr} {e : Entrance} {ns : List Nat} (pl : PlanAt CP H p dx l e) (ok : Ok e) (hk : ns.length = k) (ha : ask e ns) : SpV (spPV CP k ask g) (.ref p :: nv ns) H (g e ns) :=
  fun H1 x Q q _ => ⟨p, dx, l, e, ns, rfl, hk, pl.mono x, ok, ha, q⟩
def asks0 : Entrance → List Nat → Prop := fun _ _ => True
def asksLe : Entrance → List Nat → Prop := fun _ ns => ns.getD 0 0 ≤ ns.getD 1 0
theorem ok_arrivals_between (T : Txt K mg CP CS) (D : Df K mg "arrivals_between" ["planner", "first", "last"] s_arrivals_between) :
    C8.Cal P w K mg base 1 "arrivals_between" (spPV CP 2 asks0 fun e ns => .int (sumBetween e.arrivals (ns.getD 0 0) (ns.getD 1 0) : Nat)) [] := by
  refine cal_of D sc_arrivals_between len_PV fun f cdv A outer s H vs Q E hr h => ⟨_, (pss_one (ps_ret (pe_callB (cr_sum rfl) (by rfl) T.b_sum (by decide +kernel) (pa_cons (pe_slice sl_list (pe_fld (pv 0) rfl) (po_some (pv 1)) (po_some (pe_op op_add (pv 2) pe_int))) pa_nil)))), ?_⟩
  obtain ⟨p, dx, l, e, ns, rfl, hn, pl, ok, _, k⟩ := h
  obtain ⟨m, n, rfl⟩ := two_of hn
  refine s_ret (ev_sumN (xs := (e.arrivals.drop m).take (n + 1 - m)) ?_) k
  have := el_sl (σ := start ["planner", "first", "last"] [.ref p, .int (m : Nat), .int (n : Nat)]) (K := K) (ev_ar (te := tVar 0) T (ev_var rfl) pl) (eo_some (te := tVar 1) (i := (m : Nat)) (ev_var rfl)) (eo_some (ev_add (ta := tVar 2) (i := (n : Nat)) (ev_var rfl) (ev_c (v := .int 1)))) (sq_of pl.li)
  rw [show ((n : Nat) : Int) + 1 = ((n + 1 : Nat) : Int) by omega, cut_nv] at this
  exact this
theorem sb_small {e : Entrance} (ok : Ok e) (s t : Nat) : sumBetween e.arrivals s t ≤ 400 := by
  by_cases c : s ≤ t + 1
  · have a := sb_ps e.arrivals s t c
    have b := ps_gap' e.arrivals 40 (getD_le_of_all ok.arr) (show 0 ≤ e.arrivals.length by omega)
    have d : ps e.arrivals (t + 1) ≤ ps e.arrivals e.arrivals.length := by
      by_cases q : t + 1 ≤ e.arrivals.length
      · exact ps_mono _ q
      · rw [ps_all _ (by omega), ps_all _ (Nat.le_refl _)]; exact Nat.le_refl _
    have := ok.len
    rw [ps_zero] at b
    have : 40 * (e.arrivals.length - 0) ≤ 400 := by omega
    omega
  · have : t + 1 - s = 0 := by omega
    unfold sumBetween
    rw [this]
    simp
theorem ok_is_infeasible (T : Txt K mg CP CS) (D : Df K mg "is_infeasible" ["planner", "first", "last"] s_is_infeasible)
    (c_arrivals_between : C8.Cal P w K mg base 1 "arrivals_between" (spPV CP 2 asks0 fun e ns => .int (sumBetween e.arrivals (ns.getD 0 0) (ns.getD 1 0) : Nat)) []) :
    C8.Cal P w K mg base 2 "is_infeasible" (spPV CP 2 asksLe fun e ns => .bl (decide (bad e (ns.getD 0 0) (ns.getD 1 0)))) [] := by
  refine cal_of D sc_is_infeasible len_PV fun f cdv A outer s H vs Q E hr h => ⟨_, (pss_cons (ps_set (i := 3) sc_is_infeasible.nd rfl (Or.inl rfl) (pe_op op_sub (pe_op op_add (pe_op op_add (pv 2) (pe_fld (pv 0) rfl)) pe_int) (pv 1)))
      (pss_one (ps_ret (pe_cmpR op_gt (C8.pe_c c_arrivals_between hr (by decide) (by rfl) (pa_cons (pv 0) (pa_cons (pv 1) (pa_cons (pv 2) pa_nil)))) (pe_op op_mul (pe_op op_mul (pe_fld (pv 0) rfl) (pe_fld (pv 0) rfl)) (pv 3)) (nomark _))))), ?_⟩
  obtain ⟨p, dx, l, e, ns, rfl, hn, pl, ok, ha, k⟩ := h
  obtain ⟨m, n, rfl⟩ := two_of hn
  have hmn : m ≤ n := ha
  refine q_asg (ev_sub (ev_add (ev_add (ev_var (v := .int (n : Nat)) rfl) (ev_mw T (ev_var rfl) pl)) ev_c) (ev_var (v := .int (m : Nat)) rfl)) fun H1 e1 => ?_
  have pl1 := pl.mono e1
  have hw : ((n : Nat) : Int) + ((e.maxWait : Nat) : Int) + 1 - ((m : Nat) : Int) = ((n + e.maxWait + 1 - m : Nat) : Int) := by omega
  rw [hw]
  have hg := ok.g2
  have hG := ok.mg
  have hpg : e.perGate * e.maxGates ≤ 54 := Nat.mul_le_mul ok.g2 ok.mg
  have key : (V.bl (decide (((e.perGate : Nat) : Int) * ((e.maxGates : Nat) : Int) * ((n + e.maxWait + 1 - m : Nat) : Int) < ((sumBetween e.arrivals m n : Nat) : Int)))) = V.bl (decide (bad e m n)) := by
    congr 1
    apply decide_eq_decide.mpr
    unfold bad
    rw [← Int.natCast_mul, ← Int.natCast_mul, Nat.mul_assoc]
    exact Int.ofNat_lt
  refine s_ret (ev_is (ev_op (ev_call (ea_cons (ev_var rfl) (ea_cons (ev_var rfl) (ea_cons (ev_var rfl) ea_nil))) (SpPV (ns := [m, n]) pl1 ok rfl trivial)) (ev_op (ev_op (ev_pg T (ev_var rfl) pl1) (ev_mg T (ev_var rfl) pl1) (rv_I (.inl ⟨by omega, by omega⟩))) (ev_var rfl) (rv_I (.inl ⟨?_, ?_⟩))) rv_I0) key) fun H2 e2 => k H2 (e1.trans e2)
  · rw [← Int.natCast_mul]; omega
  · rw [← Int.natCast_mul]; omega
end
end GW
set_option Elab.async false
set_option linter.all false
set_option maxRecDepth 100000
set_option maxHeartbeats 4000000
namespace GW
open PySem PySem.Spec PyProof.Rows L2 Evl
open Kv435 (Entrance Planner Operation Response sumBetween)
open GT
section
variable {P : Program} {w : World} {K : PySem.W.Frag} {mg : Str → Option Value} {base : Heap} {CP CS : Addr}
def RetU (xs : List V) (H : Hp) (Q : VK) : Prop := ∀ p H2, H p = none → Ex H H2 → H2 p = some (.tup xs) → Q (.ref p) H2
def spInf (CP : Addr) : Sp := fun vs H Q _ => ∃ (p dx l : Addr) (e : Entrance), vs = [.ref p] ∧ PlanAt CP H p dx l e ∧ Ok e ∧ (e.infeasibleInterval = none → RetV .non H Q) ∧
  ∀ s t, t < e.minutes → s ≤ t → e.infeasibleInterval = some (s, t) → RetU [.int (s : Nat), .int (t : Nat)] H Q
theorem ok_earliest_infeasible_interval (T : Txt K mg CP CS) (D : Df K mg "earliest_infeasible_interval" ["planner"] s_earliest_infeasible_interval)
    (c_is_infeasible : C8.Cal P w K mg base 2 "is_infeasible" (spPV CP 2 asksLe fun e ns => .bl (decide (bad e (ns.getD 0 0) (ns.getD 1 0)))) []) :
    C8.Cal P w K mg base 3 "earliest_infeasible_interval" (spInf CP) [] := by
  refine cal_of D sc_earliest_infeasible_interval (fun vs H Q E h => by obtain ⟨p, dx, l, e, rfl, _⟩ := h; rfl) fun f cdv A outer s H vs Q E hr h => ⟨_, (pss_cons (ps_for PassesOwn.never rfl (pi_range1 rfl T.b_range (pa_cons (pe_callB call_len_seq (by rfl) T.b_len PySem.boot_len (pa_cons (pe_fld (pv 0) rfl) pa_nil)) pa_nil)) (pg_name (i := 1) sc_earliest_infeasible_interval.nd rfl (Or.inl rfl)) (pss_one (ps_for PassesOwn.never rfl (pi_range1 rfl T.b_range (pa_cons (pe_op op_add (pv 1) pe_int) pa_nil)) (pg_name (i := 2) sc_earliest_infeasible_interval.nd rfl (Or.inl rfl)) (pss_one (ps_if (pt_val (C8.pe_c c_is_infeasible hr (by decide) (by rfl) (pa_cons (pv 0) (pa_cons (pv 2) (pa_cons (pv 1) pa_nil))))) (pss_one (ps_ret (pe_tup (pa_cons (pv 2) (pa_cons (pv 1) pa_nil))))) pss_nil)))))
      (pss_one (ps_ret pe_non))), ?_⟩
  obtain ⟨p, dx, l, e, rfl, pl, ok, kN, kS⟩ := h
  refine q_forR1 (ea_cons (ev_nlen T (ev_var rfl) pl) ea_nil) ⟨by omega, by have := ok.len; omega⟩ (fun i σ' H' => ∃ v1 v2 : Option V, σ' = [some (.ref p), v1, v2] ∧ Ex H H' ∧ ∀ t, t < i → ∀ s, s ≤ t → ¬ bad e s t)
    (fun H1 e1 => ⟨none, none, rfl, e1, fun t ht => absurd ht (Nat.not_lt_zero t)⟩) ?_ ?_
  · rintro i σ' H' hi ⟨v1, v2, rfl, x, lo⟩
    have hi' : i < e.minutes := by have : i < e.arrivals.length := by omega
                                   exact this
    refine s_forR1 (n := ((i : Nat) : Int) + 1) (ea_cons (ev_add (ev_var rfl) ev_c) ea_nil) ⟨by omega, by have := ok.len; have : e.minutes = e.arrivals.length := rfl; omega⟩
      (fun j σ2 H2 => ∃ v : Option V, σ2 = [some (.ref p), some (.int (i : Nat)), v] ∧ Ex H H2 ∧ ∀ s, s < j → ¬ bad e s i) (fun H1 e1 => ⟨v2, rfl, x.trans e1, fun t ht => absurd ht (Nat.not_lt_zero t)⟩) ?_ ?_
    · rintro j σ2 H2 hj ⟨v, rfl, x2, lo2⟩
      have hji : j ≤ i := by omega
      refine s_when (et_B (ev_call (ea_cons (ev_var rfl) (ea_cons (ev_var rfl) (ea_cons (ev_var rfl) ea_nil))) (SpPV (ns := [j, i]) (pl.mono x2) ok rfl hji))) (fun hb H3 e3 => ?_) fun hb H3 e3 => ?_
      · have hb' : bad e j i := of_decide_eq_true hb
        refine s_retU (eu_tup (ea_cons (ev_var rfl) (ea_cons (ev_var rfl) ea_nil)) (by show 2 ≤ 100000; decide)) fun a H4 ha e4 h4 => ?_
        exact kS j i hi' hji (inf_some hi' hji lo lo2 hb') a H4 (fresh_back (x2.trans e3) ha) ((x2.trans e3).trans e4) h4
      · have hb' : ¬ bad e j i := of_decide_eq_false hb
        refine ⟨_, rfl, x2.trans e3, fun s hs => ?_⟩
        by_cases c : s = j
        · subst c; exact hb'
        · exact lo2 s (by omega)
    · rintro σ2 H2 ⟨v, rfl, x2, lo2⟩
      refine ⟨_, _, rfl, x2, fun t ht s hs => ?_⟩
      by_cases c : t = i
      · subst c; exact lo2 s (by omega)
      · exact lo t (by omega) s hs
  · rintro σ' H' ⟨v1, v2, rfl, x, lo⟩
    have hn : e.infeasibleInterval = none := infInterval_none.mpr ((noInf_iff_bad e).mpr fun t ht s hs => lo t (by have : t < e.arrivals.length := ht; omega) s hs)
    exact s_ret ev_c fun H1 e1 => kN hn H1 (x.trans e1)
theorem ok_has_feasible_schedule (T : Txt K mg CP CS) (D : Df K mg "has_feasible_schedule" ["planner"] s_has_feasible_schedule)
    (c_earliest_infeasible_interval : C8.Cal P w K mg base 3 "earliest_infeasible_interval" (spInf CP) []) :
    C8.Cal P w K mg base 4 "has_feasible_schedule" (spPV CP 0 asks0 fun e _ => .bl e.isPossible) [] := by
  refine cal_of D sc_has_feasible_schedule len_PV fun f cdv A outer s H vs Q E hr h => ⟨_, (pss_one (ps_ret (pe_cmpR op_isN (C8.pe_c c_earliest_infeasible_interval hr (by decide) (by rfl) (pa_cons (pv 0) pa_nil)) pe_non (nomark _)))), ?_⟩
  obtain ⟨p, dx, l, e, ns, rfl, hn, pl, ok, _, k⟩ := h
  obtain rfl := List.eq_nil_of_length_eq_zero hn
  have hk := possible_of_none ok.g1
  refine ⟨_, rfl, p, dx, l, e, rfl, pl, ok, fun z H2 e2 => ?_, fun s t ht hs z a H2 ha e2 h2 => ?_⟩
  · refine ⟨rfl, ?_⟩
    rw [z] at hk
    show Q (.bl (decide (V.non = V.non))) H2
    rw [decide_eq_true rfl]
    have : Q (.bl e.isPossible) H2 := k H2 e2
    rw [hk] at this
    exact this
  · refine ⟨rfl, ?_⟩
    rw [z] at hk
    show Q (.bl (decide (V.ref a = V.non))) H2
    rw [decide_eq_false (by intro q; cases q)]
    have : Q (.bl e.isPossible) H2 := k H2 e2
    rw [hk] at this
    exact this
theorem ok_schedule_length (T : Txt K mg CP CS) (D : Df K mg "schedule_length" ["planner"] s_schedule_length) :
    C8.Cal P w K mg base 1 "schedule_length" (spPV CP 0 asks0 fun e _ => .int (e.scheduleLength : Nat)) [] := by
  refine cal_of D sc_schedule_length len_PV fun f cdv A outer s H vs Q E hr h => ⟨_, (pss_cons (ps_if (pt_cmpR op_eq (pe_callB call_len_seq (by rfl) T.b_len PySem.boot_len (pa_cons (pe_fld (pv 0) rfl) pa_nil)) pe_int (nomark _)) (pss_one (ps_ret pe_int)) pss_nil)
      (pss_one (ps_ret (pe_op op_add (pe_callB call_len_seq (by rfl) T.b_len PySem.boot_len (pa_cons (pe_fld (pv 0) rfl) pa_nil)) (pe_fld (pv 0) rfl))))), ?_⟩
  obtain ⟨p, dx, l, e, ns, rfl, hn, pl, ok, _, k⟩ := h
  obtain rfl := List.eq_nil_of_length_eq_zero hn
  refine q_when (et_eqi (ev_nlen T (ev_var rfl) pl) ev_c) (fun hb H1 e1 => ?_) fun hb H1 e1 => ?_
  · have hz : e.scheduleLength = 0 := if_pos (by have := of_decide_eq_true hb; show e.arrivals.length = 0; omega)
    refine s_ret ev_c fun H2 e2 => ?_
    have : Q (.int (e.scheduleLength : Nat)) H2 := k H2 (e1.trans e2)
    rw [hz] at this
    exact this
  · have hz : e.scheduleLength = e.arrivals.length + e.maxWait := if_neg (by have := of_decide_eq_false hb; show ¬ e.arrivals.length = 0; omega)
    refine s_ret (ev_add (ev_nlen T (ev_var rfl) (pl.mono e1)) (ev_mw T (ev_var rfl) (pl.mono e1))) fun H2 e2 => ?_
    have : Q (.int (e.scheduleLength : Nat)) H2 := k H2 (e1.trans e2)
    rw [hz, Int.natCast_add] at this
    exact this
theorem ok_gate_minutes_needed (T : Txt K mg CP CS) (D : Df K mg "gate_minutes_needed" ["planner", "first", "last"] s_gate_minutes_needed)
    (c_arrivals_between : C8.Cal P w K mg base 1 "arrivals_between" (spPV CP 2 asks0 fun e ns => .int (sumBetween e.arrivals (ns.getD 0 0) (ns.getD 1 0) : Nat)) []) :
    C8.Cal P w K mg base 2 "gate_minutes_needed" (spPV CP 2 asks0 fun e ns => .int (need e (ns.getD 0 0) (ns.getD 1 0) : Nat)) [] := by
  refine cal_of D sc_gate_minutes_needed len_PV fun f cdv A outer s H vs Q E hr h => ⟨_, (pss_cons (ps_set (i := 3) sc_gate_minutes_needed.nd rfl (Or.inl rfl) (C8.pe_c c_arrivals_between hr (by decide) (by rfl) (pa_cons (pv 0) (pa_cons (pv 1) (pa_cons (pv 2) pa_nil)))))
      (pss_one (ps_ret (pe_op op_fdiv (pe_op op_sub (pe_op op_add (pv 3) (pe_fld (pv 0) rfl)) pe_int) (pe_fld (pv 0) rfl))))), ?_⟩
  obtain ⟨p, dx, l, e, ns, rfl, hn, pl, ok, _, k⟩ := h
  obtain ⟨m, n, rfl⟩ := two_of hn
  refine q_asg (ev_call (ea_cons (ev_var rfl) (ea_cons (ev_var rfl) (ea_cons (ev_var rfl) ea_nil))) (SpPV (ns := [m, n]) pl ok rfl trivial)) fun H1 e1 => ?_
  have pl1 := pl.mono e1
  have h1 := ok.g1
  have h2 := ok.g2
  refine s_ret (ev_is (ev_op (ev_sub (ev_add (ev_var rfl) (ev_pg T (ev_var rfl) pl1)) ev_c) (ev_pg T (ev_var rfl) pl1) (rv_I ⟨by omega, by omega⟩)) (congrArg V.int (need_int h1))) fun H2 e2 => k H2 (e1.trans e2)
/-! ### the greedy minute -/
def spFew (CP : Addr) : Sp := fun vs H Q _ => ∃ (p dx l : Addr) (e : Entrance) (ga : Addr) (g : List Nat), vs = [.ref p, .ref ga] ∧ PlanAt CP H p dx l e ∧ Ok e ∧ H ga = some (.lst (nv g)) ∧ g.length ≤ 1000 ∧ ∀ v, Few e g v → RetV (.int (v : Nat)) H Q
/-- what has been looked at: f is enough for it, and no more than some of it asks -/
structure Seen (e : Entrance) (g : List Nat) (D : Nat → Nat → Prop) (f : Nat) : Prop where
  enough : ∀ s t, s ≤ t → t < e.minutes → s ≤ g.length → g.length ≤ t + e.maxWait → D s t → need e s t + ps g s ≤ ps g g.length + f + e.maxGates * (t + e.maxWait - g.length)
  tight : f = 0 ∨ ∃ s t, s ≤ t ∧ t < e.minutes ∧ s ≤ g.length ∧ g.length ≤ t + e.maxWait ∧ need e s t + ps g s = ps g g.length + f + e.maxGates * (t + e.maxWait - g.length)
theorem Seen.more {e : Entrance} {g : List Nat} {D D' : Nat → Nat → Prop} {f f' : Nat} {s t : Nat} (S : Seen e g D f) (hs : s ≤ t) (ht : t < e.minutes) (hg : s ≤ g.length) (hw : g.length ≤ t + e.maxWait)
    (hf : (f' : Int) = (if (need e s t : Int) - ((g.drop s).sum : Nat) - (e.maxGates * (t + e.maxWait - g.length) : Nat) > (f : Int) then (need e s t : Int) - ((g.drop s).sum : Nat) - (e.maxGates * (t + e.maxWait - g.length) : Nat) else (f : Int)))
    (hD : ∀ s' t', D' s' t' → D s' t' ∨ (s' = s ∧ t' = t)) : Seen e g D' f' := by
  have sd := sum_drop g s
  split at hf
  · refine ⟨fun s' t' a b c d h => ?_, .inr ⟨s, t, hs, ht, hg, hw, by omega⟩⟩
    rcases hD s' t' h with q | ⟨rfl, rfl⟩
    · have := S.enough s' t' a b c d q
      omega
    · omega
  · have ef : f' = f := by omega
    subst ef
    refine ⟨fun s' t' a b c d h => ?_, S.tight⟩
    rcases hD s' t' h with q | ⟨rfl, rfl⟩
    · exact S.enough s' t' a b c d q
    · omega
theorem Seen.weaken {e : Entrance} {g : List Nat} {D D' : Nat → Nat → Prop} {f : Nat} (S : Seen e g D f) (h : ∀ s t, s ≤ t → t < e.minutes → s ≤ g.length → g.length ≤ t + e.maxWait → D' s t → D s t) : Seen e g D' f :=
  ⟨fun s t a b c d q => S.enough s t a b c d (h s t a b c d q), S.tight⟩
theorem ok_fewest_gates_next (T : Txt K mg CP CS) (D : Df K mg "fewest_gates_next" ["planner", "gates"] s_fewest_gates_next)
    (c_gate_minutes_needed : C8.Cal P w K mg base 2 "gate_minutes_needed" (spPV CP 2 asks0 fun e ns => .int (need e (ns.getD 0 0) (ns.getD 1 0) : Nat)) []) :
    C8.Cal P w K mg base 3 "fewest_gates_next" (spFew CP) [] := by
  refine cal_of D sc_fewest_gates_next (fun vs H Q E h => by obtain ⟨p, dx, l, e, ga, g, rfl, _⟩ := h; rfl) fun f cdv A outer s H vs Q E hr h => ⟨_, (pss_cons (ps_set (i := 2) sc_fewest_gates_next.nd rfl (Or.inl rfl) (pe_callB call_len_seq (by rfl) T.b_len PySem.boot_len (pa_cons (pv 1) pa_nil)))
      (pss_cons (ps_set (i := 3) sc_fewest_gates_next.nd rfl (Or.inl rfl) pe_int)
      (pss_cons (ps_for PassesOwn.never rfl (pi_range2 rfl T.b_range (pa_cons (pe_callB (call_max2 rfl) (by rfl) T.b_max (by decide +kernel) (pa_cons pe_int (pa_cons (pe_op op_sub (pv 2) (pe_fld (pv 0) rfl)) pa_nil))) (pa_cons (pe_callB call_len_seq (by rfl) T.b_len PySem.boot_len (pa_cons (pe_fld (pv 0) rfl) pa_nil)) pa_nil))) (pg_name (i := 4) sc_fewest_gates_next.nd rfl (Or.inl rfl)) (pss_cons (ps_set (i := 5) sc_fewest_gates_next.nd rfl (Or.inl rfl) (pe_op op_mul (pe_fld (pv 0) rfl) (pe_op op_sub (pe_op op_add (pv 4) (pe_fld (pv 0) rfl)) (pv 2))))
      (pss_one (ps_for PassesOwn.never rfl (pi_range1 rfl T.b_range (pa_cons (pe_op op_add (pe_callB (call_min2 rfl) (by rfl) T.b_min (by decide +kernel) (pa_cons (pv 2) (pa_cons (pv 4) pa_nil))) pe_int) pa_nil)) (pg_name (i := 6) sc_fewest_gates_next.nd rfl (Or.inl rfl)) (pss_cons (ps_set (i := 7) sc_fewest_gates_next.nd rfl (Or.inl rfl) (pe_op op_sub (C8.pe_c c_gate_minutes_needed hr (by decide) (by rfl) (pa_cons (pv 0) (pa_cons (pv 6) (pa_cons (pv 4) pa_nil)))) (pe_callB (cr_sum rfl) (by rfl) T.b_sum (by decide +kernel) (pa_cons (pe_slice sl_list (pv 1) (po_some (pv 6)) po_none) pa_nil))))
      (pss_one (ps_set (i := 3) sc_fewest_gates_next.nd rfl (Or.inl rfl) (pe_callB (call_max2 rfl) (by rfl) T.b_max (by decide +kernel) (pa_cons (pv 3) (pa_cons (pe_op op_sub (pv 7) (pv 5)) pa_nil))))))))))
      (pss_one (ps_ret (pv 3)))))), ?_⟩
  obtain ⟨p, dx, l, e, ga, g, rfl, pl, ok, hga, hgl, k⟩ := h
  have hm := ok.mw
  have hG := ok.mg
  have hlen := ok.len
  have hmin : e.minutes = e.arrivals.length := rfl
  refine q_asg (v := .int ((g.length : Nat) : Int)) (ev_is (ev_len (ev_var rfl) (sq_of hga)) (by rw [nv_len])) fun H1 e1 => ?_
  refine q_asg ev_c fun H2 e2 => ?_
  have x2 := e1.trans e2
  generalize hlo : (if ((g.length : Nat) : Int) - ((e.maxWait : Nat) : Int) > 0 then ((g.length : Nat) : Int) - ((e.maxWait : Nat) : Int) else 0) = lo
  have hlo0 : 0 ≤ lo := by rw [← hlo]; split <;> omega
  have hlo1 : lo ≤ 1000 := by rw [← hlo]; split <;> omega
  have hlo2 : ∀ t : Nat, ((t : Nat) : Int) < lo ↔ ¬ g.length ≤ t + e.maxWait := by
    intro t
    rw [← hlo]
    constructor
    · intro z; split at z <;> omega
    · intro z; split <;> omega
  refine q_forR2 (lo := lo) (n := ((e.arrivals.length : Nat) : Int)) (ea_cons (ev_is (ev_maxI ev_c (ev_sub (ev_var rfl) (ev_mw T (ev_var rfl) (pl.mono x2)))) (congrArg V.int hlo)) (ea_cons (ev_nlen T (ev_var rfl) (pl.mono x2)) ea_nil)) ⟨hlo0, by omega, by omega, by omega⟩
    (fun i σ' H' => ∃ (f : Nat) (v4 v5 v6 v7 : Option V), σ' = [some (.ref p), some (.ref ga), some (.int (g.length : Nat)), some (.int (f : Nat)), v4, v5, v6, v7] ∧ Ex H H' ∧ Seen e g (fun _ t => ((t : Nat) : Int) < lo + (i : Int)) f)
    (fun H3 e3 => ⟨0, none, none, none, none, rfl, x2.trans e3, ⟨fun s t _ _ _ hw hD => absurd hw ((hlo2 t).mp (by omega)), .inl rfl⟩⟩) ?_ ?_
  · rintro i σ' H' hi ⟨f0, v4, v5, v6, v7, rfl, x3, S⟩
    obtain ⟨t, ht⟩ : ∃ t : Nat, ((t : Nat) : Int) = lo + (i : Int) := ⟨(lo + (i : Int)).toNat, Int.toNat_of_nonneg (by omega)⟩
    rw [← ht]
    have htn : t < e.minutes := by omega
    have hwt : g.length ≤ t + e.maxWait := by
      have := mt (hlo2 t).mpr
      have : ¬ ¬ g.length ≤ t + e.maxWait := fun z => by have := (hlo2 t).mpr z; omega
      omega
    refine q_asg (v := .int ((e.maxGates * (t + e.maxWait - g.length) : Nat) : Int)) (ev_is (ev_op (ev_mg T (ev_var rfl) (pl.mono x3)) (ev_sub (ev_add (ev_var (v := .int ((t : Nat) : Int)) rfl) (ev_mw T (ev_var rfl) (pl.mono x3))) (ev_var rfl)) (rv_I (.inl ⟨by omega, by omega⟩))) ?_) fun H4 e4 => ?_
    · have : ((t : Nat) : Int) + ((e.maxWait : Nat) : Int) - ((g.length : Nat) : Int) = ((t + e.maxWait - g.length : Nat) : Int) := by omega
      show V.int (((e.maxGates : Nat) : Int) * (((t : Nat) : Int) + ((e.maxWait : Nat) : Int) - ((g.length : Nat) : Int))) = _
      rw [this, Int.natCast_mul]
    have x4 := x3.trans e4
    generalize hmn : (if ((t : Nat) : Int) < ((g.length : Nat) : Int) then ((t : Nat) : Int) else ((g.length : Nat) : Int)) = mn
    have hmn0 : 0 ≤ mn ∧ mn ≤ 1000 := by rw [← hmn]; split <;> omega
    have hmn1 : ∀ s : Nat, ((s : Nat) : Int) < mn + 1 ↔ s ≤ t ∧ s ≤ g.length := by
      intro s
      rw [← hmn]
      split <;> omega
    refine s_forR1 (n := mn + 1) (ea_cons (ev_add (ev_is (ev_minI (ev_var rfl) (ev_var (v := .int ((t : Nat) : Int)) rfl)) (congrArg V.int hmn)) ev_c) ea_nil) ⟨by omega, by omega⟩
      (fun j σ2 H5 => ∃ (f : Nat) (v6 v7 : Option V), σ2 = [some (.ref p), some (.ref ga), some (.int (g.length : Nat)), some (.int (f : Nat)), some (.int (t : Nat)), some (.int (e.maxGates * (t + e.maxWait - g.length) : Nat)), v6, v7] ∧ Ex H H5 ∧ Seen e g (fun s' t' => t' < t ∨ (t' = t ∧ s' < j)) f)
      (fun H5 e5 => ⟨f0, v6, v7, rfl, x4.trans e5, S.weaken fun s' t' _ _ _ _ q => by omega⟩) ?_ ?_
    · rintro j σ2 H5 hj ⟨f1, v6', v7', rfl, x5, S1⟩
      have hj2 := (hmn1 j).mp hj
      have hgj : H5 ga = some (.lst (nv g)) := x5 _ _ hga
      refine q_asg (v := .int (((need e j t : Nat) : Int) - (((g.drop j).sum : Nat) : Int))) (ev_sub (ev_call (ea_cons (ev_var rfl) (ea_cons (ev_var rfl) (ea_cons (ev_var rfl) ea_nil))) (SpPV (ns := [j, t]) (pl.mono x5) ok rfl trivial)) (ev_sumN ?_)) fun H6 e6 => ?_
      · have := el_sl (K := K) (te := tVar 1) (σ := [some (.ref p), some (.ref ga), some (.int (g.length : Nat)), some (.int (f1 : Nat)), some (.int (t : Nat)), some (.int (e.maxGates * (t + e.maxWait - g.length) : Nat)), some (.int (j : Nat)), v7']) (H := H5) (ev_var rfl) (eo_some (te := tVar 6) (i := (j : Nat)) (ev_var rfl)) eo_none (sq_of hgj)
        rw [cut_nv0] at this
        exact this
      obtain ⟨f2, hf2⟩ : ∃ f2 : Nat, (f2 : Int) = (if (need e j t : Int) - ((g.drop j).sum : Nat) - (e.maxGates * (t + e.maxWait - g.length) : Nat) > (f1 : Int) then (need e j t : Int) - ((g.drop j).sum : Nat) - (e.maxGates * (t + e.maxWait - g.length) : Nat) else (f1 : Int)) :=
        ⟨_, Int.toNat_of_nonneg (by split <;> omega)⟩
      refine s_asg (v := .int ((f2 : Nat) : Int)) (ev_is (ev_maxI (ev_var rfl) (ev_sub (ev_var rfl) (ev_var rfl))) (congrArg V.int hf2.symm)) fun H7 e7 => ?_
      exact ⟨f2, _, _, rfl, (x5.trans e6).trans e7, S1.more hj2.1 htn hj2.2 hwt hf2 fun s' t' q => by omega⟩
    · rintro σ2 H5 ⟨f1, v6', v7', rfl, x5, S1⟩
      refine ⟨f1, _, _, _, _, rfl, x5, S1.weaken fun s' t' a b c d q => ?_⟩
      have := (hmn1 s')
      by_cases ct : t' = t
      · subst ct
        have := this.mpr ⟨a, c⟩
        omega
      · omega
  · rintro σ' H' ⟨f0, v4, v5, v6, v7, rfl, x3, S⟩
    have F : Few e g f0 := ⟨fun s t a b c d => S.enough s t a b c d (by omega), S.tight⟩
    exact s_ret (ev_var rfl) fun H4 e4 => k f0 F H4 (x3.trans e4)
end
end GW
set_option Elab.async false
set_option linter.all false
set_option maxRecDepth 100000
set_option maxHeartbeats 4000000
namespace GW
open PySem PySem.Spec PyProof.Rows L2 Evl
open Kv435 (Entrance Planner Operation Response sumBetween)
open GT
section
variable {P : Program} {w : World} {K : PySem.W.Frag} {mg : Str → Option Value} {base : Heap} {CP CS : Addr}
/-- a planner in, a new list out -/
def spPL (CP : Addr) (ask : Entrance → Prop) (g : Entrance → List V) : Sp := fun vs H Q _ => ∃ (p dx l : Addr) (e : Entrance), vs = [.ref p] ∧ PlanAt CP H p dx l e ∧ Ok e ∧ ask e ∧ RetL (g e) H Q
theorem SpPL {CP : Addr} {ask : Entrance → Prop} {g : Entrance → List V} {H : Hp} {p dx l : Addr} {e : Entrance} (pl : PlanAt CP H p dx l e) (ok : Ok e) (ha : ask e) : SpL (spPL CP ask g) [.ref p] H (g e) :=
  fun H1 x Q q _ => ⟨p, dx, l, e, rfl, pl.mono x, ok, ha, q⟩
theorem ok_find_best_schedule (T : Txt K mg CP CS) (D : Df K mg "find_best_schedule" ["planner"] s_find_best_schedule)
    (c_schedule_length : C8.Cal P w K mg base 1 "schedule_length" (spPV CP 0 asks0 fun e _ => .int (e.scheduleLength : Nat)) [])
    (c_fewest_gates_next : C8.Cal P w K mg base 3 "fewest_gates_next" (spFew CP) []) :
    C8.Cal P w K mg base 4 "find_best_schedule" (spPL CP NoInf fun e => nv e.lateSchedule) [] := by
  refine cal_of D sc_find_best_schedule (fun vs H Q E h => by obtain ⟨p, dx, l, e, rfl, _⟩ := h; rfl) fun f cdv A outer s H vs Q E hr h => ⟨_, (pss_cons (ps_set (i := 1) sc_find_best_schedule.nd rfl (Or.inl rfl) (pe_lst pa_nil))
      (pss_cons (ps_while PassesOwn.never (pt_cmpR op_lt (pe_callB call_len_seq (by rfl) T.b_len PySem.boot_len (pa_cons (pv 1) pa_nil)) (C8.pe_c c_schedule_length hr (by decide) (by rfl) (pa_cons (pv 0) pa_nil)) (nomark _)) (pss_one (ps_expr (pe_bm PySem.F.plainAttrs_list PySem.F.slot_list_append PySem.F.type_list_append mt_append (pv 1) (pa_cons (C8.pe_c c_fewest_gates_next hr (by decide) (by rfl) (pa_cons (pv 0) (pa_cons (pv 1) pa_nil))) pa_nil)))))
      (pss_one (ps_ret (pv 1))))), ?_⟩
  obtain ⟨p, dx, l, e, rfl, pl, ok, N, k⟩ := h
  have hL : e.scheduleLength ≤ 16 := by
    have := ok.len
    have := ok.mw
    unfold Entrance.scheduleLength
    have : e.minutes = e.arrivals.length := rfl
    split <;> omega
  refine q_asgL (el_lst ea_nil (by show 0 ≤ 100000; decide)) fun ga H1 hga e1 h1 => ?_
  refine q_while (fun m σ' H' => ∃ g : List Nat, σ' = [some (.ref p), some (.ref ga)] ∧ Ex H H' ∧ H' ga = some (.lst (nv g)) ∧ Greedy e g ∧ m + g.length = e.scheduleLength) e.scheduleLength ⟨[], rfl, e1, h1, Greedy.nil e, rfl⟩ ?_
  rintro m σ' H' ⟨g, rfl, x, hg, R, hm⟩
  refine ⟨_, et_lt (ev_is (ev_len (ev_var rfl) (sq_of hg)) (by rw [nv_len])) (ev_call (ea_cons (ev_var rfl) ea_nil) (SpPV (ns := []) (pl.mono x) ok rfl trivial)), fun hb H2 e2 => ?_, fun hb H2 e2 => ?_⟩
  · have hb' : g.length < e.scheduleLength := by have : ((g.length : Nat) : Int) < ((e.scheduleLength : Nat) : Int) := of_decide_eq_true hb; omega
    have pl2 := (pl.mono x).mono e2
    have hg2 := e2 _ _ hg
    refine ⟨fun σ2 H3 => ∃ m', m' < m ∧ ∃ g : List Nat, σ2 = [some (.ref p), some (.ref ga)] ∧ Ex H H3 ∧ H3 ga = some (.lst (nv g)) ∧ Greedy e g ∧ m' + g.length = e.scheduleLength, fun σ2 H3 z => z, ?_⟩
    refine ⟨_, rfl, Or.inl ⟨rfl, _, sq_of hg2⟩, ?_⟩
    refine ⟨_, rfl, _, rfl, p, dx, l, e, ga, g, rfl, pl2, ok, hg2, by omega, fun v hv H3 e3 => ?_⟩
    refine ⟨ga, nv g, _, rfl, rfl, e3 _ _ hg2, sz_lt (by rw [nv_len]; omega), m - 1, by omega, g ++ [v], rfl, Ex.mut ((x.trans e2).trans e3) hga, ?_, R.push hv, ?_⟩
    · rw [upd_same, nv_append]
      rfl
    · rw [List.length_append, List.length_singleton]
      omega
  · have hb' : g.length = e.scheduleLength := by have : ¬ ((g.length : Nat) : Int) < ((e.scheduleLength : Nat) : Int) := of_decide_eq_false hb; omega
    have hgl := R.is_late ok.g1 N hb'
    subst hgl
    exact s_ret (ev_var rfl) fun H3 e3 => k ga H3 hga ((x.trans e2).trans e3) (e3 _ _ (e2 _ _ hg))
/-! ### queries -/
/-- a list of numbers in, the list with its length ahead out -/
def spCounted : Sp := fun vs H Q _ => ∃ (a : Addr) (xs : List V), vs = [.ref a] ∧ H a = some (.lst xs) ∧ xs.length ≤ 1000 ∧ RetL (.int (xs.length : Nat) :: xs) H Q
theorem ok_counted (T : Txt K mg CP CS) (D : Df K mg "counted" ["numbers"] s_counted) : C8.Cal P w K mg base 1 "counted" spCounted [] := by
  refine cal_of D sc_counted (fun vs H Q E h => by obtain ⟨a, xs, rfl, _⟩ := h; rfl) fun f cdv A outer s H vs Q E hr h => ⟨_, (pss_one (ps_ret (pe_op op_cat (pe_lst (pa_cons (pe_callB call_len_seq (by rfl) T.b_len PySem.boot_len (pa_cons (pv 0) pa_nil)) pa_nil)) (pv 0)))), ?_⟩
  obtain ⟨a, xs, rfl, ha, hl, k⟩ := h
  have hx : EvL (tLst (tCons (tCB (rLenS K) (tCons (tVar 0) tNil)) tNil)) (start ["numbers"] [.ref a]) H [.int (xs.length : Nat)] := el_lst (ea_cons (ev_len (ev_var rfl) (sq_of ha)) ea_nil) (by show 1 ≤ 100000; decide)
  refine (show tLst (tCons (tCB (rLenS K) (tCons (tVar 0) tNil)) tNil) (start ["numbers"] [.ref a]) H (fun x H1 => tVar 0 (start ["numbers"] [.ref a]) H1 fun y H2 => rCat x y H2 Q) from hx H (Ex.refl H) _ fun q H1 hq e1 h1 => ?_)
  refine ⟨_, rfl, q, a, _, _, rfl, rfl, h1, e1 _ _ ha, sz_of (by show 1 + xs.length ≤ 100000; omega), fun r hr => ?_⟩
  exact k r _ (fresh_back e1 hr) (e1.trans (Ex.new hr)) upd_same
theorem row_list (xs : List Nat) : row (.list xs) = .int (xs.length : Nat) :: nv xs := rfl
theorem row_number (n : Nat) : row (.number n) = [.int (n : Nat)] := rfl
theorem row_error (z : Int) : row (.error z) = [.int z] := rfl
/-- the list a planner's call gives, counted -/
theorem el_counted {σ : L2.St} {H : Hp} {te : TE} {E : XK} {xs : List V} (h : EvL te σ H xs) (hl : xs.length ≤ 1000) : EvL (tCall spCounted [] E (tCons te tNil)) σ H (.int (xs.length : Nat) :: xs) := fun H1 e Q q =>
  h H1 e _ fun a H2 ha e2 h2 => ⟨a, xs, rfl, h2, hl, fun r H3 hr e3 h3 => q r H3 (fresh_back e2 hr) (e2.trans e3) h3⟩
theorem ok_list_arrivals (T : Txt K mg CP CS) (D : Df K mg "list_arrivals" ["planner"] s_list_arrivals) (c_counted : C8.Cal P w K mg base 1 "counted" spCounted []) :
    C8.Cal P w K mg base 2 "list_arrivals" (spRun CP 0 fun _ => .listArrivals) [] := by
  refine cal_of D sc_list_arrivals len_run fun f cdv A outer s H vs Q E hr h => ⟨_, (pss_one (ps_ret (C8.pe_c c_counted hr (by decide) (by rfl) (pa_cons (pe_fld (pv 0) rfl) pa_nil)))), ?_⟩
  obtain ⟨p, dx, l, e, ns, rfl, hn, pl, ok, k⟩ := h
  obtain rfl := List.eq_nil_of_length_eq_zero hn
  have hl := ok.len
  refine ev_ar T (te := tVar 0) (ev_var rfl) pl H (Ex.refl H) _ fun H1 e1 => ⟨l, nv e.arrivals, rfl, e1 _ _ pl.li, by rw [nv_len]; omega, fun a H2 ha e2 h2 => ?_⟩
  exact Back.query k rfl pl e1 ha e2 h2 (by rw [nv_len]; rfl)
theorem late_len {e : Entrance} (ok : Ok e) (N : NoInf e) : e.lateSchedule.length ≤ 16 := by
  rw [(late_feas ok.g1 N).len]
  have := ok.len
  have := ok.mw
  unfold Entrance.scheduleLength
  have : e.minutes = e.arrivals.length := rfl
  split <;> omega
theorem ok_best_schedule (T : Txt K mg CP CS) (D : Df K mg "best_schedule" ["planner"] s_best_schedule) (c_counted : C8.Cal P w K mg base 1 "counted" spCounted []) (c_none_found : C8.Cal P w K mg base 1 "none_found" (spL0 (-33)) [])
    (c_has_feasible_schedule : C8.Cal P w K mg base 4 "has_feasible_schedule" (spPV CP 0 asks0 fun e _ => .bl e.isPossible) [])
    (c_find_best_schedule : C8.Cal P w K mg base 4 "find_best_schedule" (spPL CP NoInf fun e => nv e.lateSchedule) []) :
    C8.Cal P w K mg base 5 "best_schedule" (spRun CP 0 fun _ => .bestSchedule) [] := by
  refine cal_of D sc_best_schedule len_run fun f cdv A outer s H vs Q E hr h => ⟨_, (pss_cons (ps_if (pt_not (pt_val (C8.pe_c c_has_feasible_schedule hr (by decide) (by rfl) (pa_cons (pv 0) pa_nil)))) (pss_one (ps_ret (pe_c0 c_none_found hr (by decide) (by rfl)))) pss_nil)
      (pss_one (ps_ret (C8.pe_c c_counted hr (by decide) (by rfl) (pa_cons (C8.pe_c c_find_best_schedule hr (by decide) (by rfl) (pa_cons (pv 0) pa_nil)) pa_nil))))), ?_⟩
  obtain ⟨p, dx, l, e, ns, rfl, hn, pl, ok, k⟩ := h
  obtain rfl := List.eq_nil_of_length_eq_zero hn
  refine q_when (b := !e.isPossible) (et_not (et_B (ev_call (ea_cons (ev_var rfl) ea_nil) (SpPV (ns := []) pl ok rfl trivial)))) (fun hb H1 e1 => ?_) fun hb H1 e1 => ?_
  · have hN : ¬ NoInf e := fun N => by rw [(possible_iff ok.g1).mpr N] at hb; cases hb
    have hk : Planner.run ⟨e⟩ .bestSchedule = (⟨e⟩, .error (-33)) := by show (match e.bestSchedule with | none => _ | some gates => _) = _; rw [best_none ok.g1 hN]
    exact s_retL el_L0 fun a H2 ha x2 h2 => Back.query (r := Planner.run ⟨e⟩ .bestSchedule) k (by rw [hk]) pl e1 ha x2 h2 (by rw [hk]; rfl)
  · have hN : NoInf e := (possible_iff ok.g1).mp (by simpa using hb)
    have hk : Planner.run ⟨e⟩ .bestSchedule = (⟨e⟩, .list e.lateSchedule) := by show (match e.bestSchedule with | none => _ | some gates => _) = _; rw [best_some ok.g1 hN]
    have hll := late_len ok hN
    exact s_retL (el_counted (el_call (ea_cons (ev_var rfl) ea_nil) (SpPL (pl.mono e1) ok hN)) (by rw [nv_len]; omega)) fun a H2 ha x2 h2 => Back.query (r := Planner.run ⟨e⟩ .bestSchedule) k (by rw [hk]) pl e1 ha x2 h2 (by rw [hk, nv_len]; rfl)
theorem ok_min_gate_minutes (T : Txt K mg CP CS) (D : Df K mg "min_gate_minutes" ["planner"] s_min_gate_minutes) (c_none_found : C8.Cal P w K mg base 1 "none_found" (spL0 (-33)) [])
    (c_has_feasible_schedule : C8.Cal P w K mg base 4 "has_feasible_schedule" (spPV CP 0 asks0 fun e _ => .bl e.isPossible) [])
    (c_find_best_schedule : C8.Cal P w K mg base 4 "find_best_schedule" (spPL CP NoInf fun e => nv e.lateSchedule) []) :
    C8.Cal P w K mg base 5 "min_gate_minutes" (spRun CP 0 fun _ => .minGateMinutes) [] := by
  refine cal_of D sc_min_gate_minutes len_run fun f cdv A outer s H vs Q E hr h => ⟨_, (pss_cons (ps_if (pt_not (pt_val (C8.pe_c c_has_feasible_schedule hr (by decide) (by rfl) (pa_cons (pv 0) pa_nil)))) (pss_one (ps_ret (pe_c0 c_none_found hr (by decide) (by rfl)))) pss_nil)
      (pss_one (ps_ret (pe_lst (pa_cons (pe_callB (cr_sum rfl) (by rfl) T.b_sum (by decide +kernel) (pa_cons (C8.pe_c c_find_best_schedule hr (by decide) (by rfl) (pa_cons (pv 0) pa_nil)) pa_nil)) pa_nil))))), ?_⟩
  obtain ⟨p, dx, l, e, ns, rfl, hn, pl, ok, k⟩ := h
  obtain rfl := List.eq_nil_of_length_eq_zero hn
  refine q_when (b := !e.isPossible) (et_not (et_B (ev_call (ea_cons (ev_var rfl) ea_nil) (SpPV (ns := []) pl ok rfl trivial)))) (fun hb H1 e1 => ?_) fun hb H1 e1 => ?_
  · have hN : ¬ NoInf e := fun N => by rw [(possible_iff ok.g1).mpr N] at hb; cases hb
    have hk : Planner.run ⟨e⟩ .minGateMinutes = (⟨e⟩, .error (-33)) := by show (_, Response.optional (e.bestSchedule.map List.sum)) = _; rw [best_none ok.g1 hN]; rfl
    exact s_retL el_L0 fun a H2 ha x2 h2 => Back.query (r := Planner.run ⟨e⟩ .minGateMinutes) k (by rw [hk]) pl e1 ha x2 h2 (by rw [hk]; rfl)
  · have hN : NoInf e := (possible_iff ok.g1).mp (by simpa using hb)
    have hk : Planner.run ⟨e⟩ .minGateMinutes = (⟨e⟩, .number e.lateSchedule.sum) := by show (_, Response.optional (e.bestSchedule.map List.sum)) = _; rw [best_some ok.g1 hN]; rfl
    exact s_retL (el_lst (ea_cons (ev_sumN (el_call (ea_cons (ev_var rfl) ea_nil) (SpPL (pl.mono e1) ok hN))) ea_nil) (by show 1 ≤ 100000; decide)) fun a H2 ha x2 h2 => Back.query (r := Planner.run ⟨e⟩ .minGateMinutes) k (by rw [hk]) pl e1 ha x2 h2 (by rw [hk]; rfl)
theorem ok_is_possible (T : Txt K mg CP CS) (D : Df K mg "is_possible" ["planner"] s_is_possible)
    (c_has_feasible_schedule : C8.Cal P w K mg base 4 "has_feasible_schedule" (spPV CP 0 asks0 fun e _ => .bl e.isPossible) []) :
    C8.Cal P w K mg base 5 "is_possible" (spRun CP 0 fun _ => .isPossible) [] := by
  refine cal_of D sc_is_possible len_run fun f cdv A outer s H vs Q E hr h => ⟨_, (pss_one (ps_ret (pe_lst (pa_cons (pe_ifExp (pt_val (C8.pe_c c_has_feasible_schedule hr (by decide) (by rfl) (pa_cons (pv 0) pa_nil))) pe_int pe_int) pa_nil)))), ?_⟩
  obtain ⟨p, dx, l, e, ns, rfl, hn, pl, ok, k⟩ := h
  obtain rfl := List.eq_nil_of_length_eq_zero hn
  refine s_retL (el_lst (ea_cons (ev_if (v := .int (Kv435.flag e.isPossible : Nat)) (et_B (ev_call (ea_cons (ev_var rfl) ea_nil) (SpPV (ns := []) pl ok rfl trivial))) (fun hb => ev_is ev_c ?_) (fun hb => ev_is ev_c ?_)) ea_nil) (by show 1 ≤ 100000; decide)) fun a H2 ha x2 h2 => Back.query k rfl pl (Ex.refl H) ha x2 h2 rfl
  · rw [show e.isPossible = true from hb]; rfl
  · rw [show e.isPossible = false from hb]; rfl
theorem et_isN {σ : L2.St} {H : Hp} {te : TE} {v : V} {b : Bool} (h : Ev te σ H v) (hb : decide (v = V.non) = b) : EvT (tTest (tOp (fun x y H Q => y = .non ∧ Q (.bl (decide (x = .non))) H) te (tC .non))) σ H b :=
  et_test (ev_op h ev_c fun H2 _ Q q => ⟨rfl, by rw [hb]; exact q H2 (Ex.refl H2)⟩)
theorem ok_infeasible_interval (T : Txt K mg CP CS) (D : Df K mg "infeasible_interval" ["planner"] s_infeasible_interval) (c_none_found : C8.Cal P w K mg base 1 "none_found" (spL0 (-33)) [])
    (c_earliest_infeasible_interval : C8.Cal P w K mg base 3 "earliest_infeasible_interval" (spInf CP) [])
    (c_arrivals_between : C8.Cal P w K mg base 1 "arrivals_between" (spPV CP 2 asks0 fun e ns => .int (sumBetween e.arrivals (ns.getD 0 0) (ns.getD 1 0) : Nat)) []) :
    C8.Cal P w K mg base 4 "infeasible_interval" (spRun CP 0 fun _ => .infeasibleInterval) [] := by
  refine cal_of D sc_infeasible_interval len_run fun f cdv A outer s H vs Q E hr h => ⟨_, (pss_cons (ps_set (i := 1) sc_infeasible_interval.nd rfl (Or.inl rfl) (C8.pe_c c_earliest_infeasible_interval hr (by decide) (by rfl) (pa_cons (pv 0) pa_nil)))
      (pss_cons (ps_if (pt_cmpR op_isN (pv 1) pe_non (nomark _)) (pss_one (ps_ret (pe_c0 c_none_found hr (by decide) (by rfl)))) pss_nil)
      (pss_one (ps_ret (pe_lst (pa_cons (pe_ix ix_tup (pv 1) pe_int (fun _ _ => rfl)) (pa_cons (pe_ix ix_tup (pv 1) pe_int (fun _ _ => rfl)) (pa_cons (C8.pe_c c_arrivals_between hr (by decide) (by rfl) (pa_cons (pv 0) (pa_cons (pe_ix ix_tup (pv 1) pe_int (fun _ _ => rfl)) (pa_cons (pe_ix ix_tup (pv 1) pe_int (fun _ _ => rfl)) pa_nil)))) pa_nil)))))))), ?_⟩
  obtain ⟨p, dx, l, e, ns, rfl, hn, pl, ok, k⟩ := h
  obtain rfl := List.eq_nil_of_length_eq_zero hn
  refine ⟨_, rfl, p, dx, l, e, rfl, pl, ok, fun z H1 e1 => ?_, fun s t ht hs z t0 H1 ht0 e1 h1 => ?_⟩
  · have hk : Planner.run ⟨e⟩ .infeasibleInterval = (⟨e⟩, .error (-33)) := by show (match e.infeasibleInterval with | none => _ | some i => _) = _; rw [z]
    refine q_when (b := true) (et_isN (v := .non) (ev_var rfl) (decide_eq_true rfl)) (fun _ H2 e2 => ?_) fun hb => by cases hb
    exact s_retL el_L0 fun a H3 ha x3 h3 => Back.query (r := Planner.run ⟨e⟩ .infeasibleInterval) k (by rw [hk]) pl (e1.trans e2) ha x3 h3 (by rw [hk]; rfl)
  · have hk : Planner.run ⟨e⟩ .infeasibleInterval = (⟨e⟩, ⟨(s : Nat), [t, sumBetween e.arrivals s t]⟩) := by show (match e.infeasibleInterval with | none => _ | some i => _) = _; rw [z]
    refine q_when (b := false) (et_isN (v := .ref t0) (ev_var rfl) (decide_eq_false (by intro q; cases q))) (fun hb => by cases hb) fun _ H2 e2 => ?_
    have ht2 := st_of (K := K) (e2 _ _ h1)
    have i0 : Ev (tOp (rIxT K) (tVar 1) (tC (.int 0))) [some (.ref p), some (.ref t0)] H2 (.int (s : Nat)) := ev_op (ev_var rfl) ev_c (rv_ixT ht2 (atI_nat (j := 0) rfl))
    have i1 : Ev (tOp (rIxT K) (tVar 1) (tC (.int 1))) [some (.ref p), some (.ref t0)] H2 (.int (t : Nat)) := ev_op (ev_var rfl) ev_c (rv_ixT ht2 (atI_nat (j := 1) rfl))
    refine s_retL (el_lst (ea_cons i0 (ea_cons i1 (ea_cons (ev_call (ea_cons (ev_var rfl) (ea_cons i0 (ea_cons i1 ea_nil))) (SpPV (ns := [s, t]) (pl.mono (e1.trans e2)) ok rfl trivial)) ea_nil))) (by show 3 ≤ 100000; decide)) fun a H3 ha x3 h3 => Back.query (r := Planner.run ⟨e⟩ .infeasibleInterval) k (by rw [hk]) pl (e1.trans e2) ha x3 h3 (by rw [hk]; rfl)
end
end GW
set_option Elab.async false
set_option linter.all false
set_option maxRecDepth 100000
set_option maxHeartbeats 4000000
namespace GW
open PySem PySem.Spec PyProof.Rows L2 Evl
open Kv435 (Entrance Planner Operation Response sumBetween)
open GT
section
variable {P : Program} {w : World} {K : PySem.W.Frag} {mg : Str → Option Value} {base : Heap} {CP CS : Addr}
theorem ok_total_arrivals (T : Txt K mg CP CS) (D : Df K mg "total_arrivals" ["planner", "first", "last"] s_total_arrivals) (c_Planner_has_minute : C8.Met P w K mg base 1 CP "has_minute" (spHas CP) [])
    (c_no_such_minute : C8.Cal P w K mg base 1 "no_such_minute" (spL0 (-2)) [])
    (c_arrivals_between : C8.Cal P w K mg base 1 "arrivals_between" (spPV CP 2 asks0 fun e ns => .int (sumBetween e.arrivals (ns.getD 0 0) (ns.getD 1 0) : Nat)) []) :
    C8.Cal P w K mg base 2 "total_arrivals" (spRun CP 2 fun ns => .totalArrivals (ns.getD 0 0) (ns.getD 1 0)) [] := by
  refine cal_of D sc_total_arrivals len_run fun f cdv A outer s H vs Q E hr h => ⟨_, (pss_cons (ps_if (PW.pt (pw_or (pt_not (pt_val (C8.pe_mt c_Planner_has_minute hr (by decide) (pv 0) (pa_cons (pv 1) pa_nil)))) (pw_or1 (pt_not (pt_val (C8.pe_mt c_Planner_has_minute hr (by decide) (pv 0) (pa_cons (pv 2) pa_nil))))))) (pss_one (ps_ret (pe_c0 c_no_such_minute hr (by decide) (by rfl)))) pss_nil)
      (pss_one (ps_ret (pe_lst (pa_cons (C8.pe_c c_arrivals_between hr (by decide) (by rfl) (pa_cons (pv 0) (pa_cons (pv 1) (pa_cons (pv 2) pa_nil)))) pa_nil))))), ?_⟩
  obtain ⟨p, dx, l, e, ns, rfl, hn, pl, ok, k⟩ := h
  obtain ⟨m, n, rfl⟩ := two_of hn
  refine q_when (et_or (et_not (et_B (ev_has (ev_var rfl) (ev_var (v := .int (m : Nat)) rfl) pl))) fun _ => et_not (et_B (ev_has (ev_var rfl) (ev_var (v := .int (n : Nat)) rfl) pl))) (fun hb H1 e1 => ?_) fun hb H1 e1 => ?_
  · have hb' : e.minutes ≤ m ∨ e.minutes ≤ n := by simp at hb; omega
    have hk : Planner.run ⟨e⟩ (.totalArrivals m n) = (⟨e⟩, .error (-2)) := if_pos hb'
    exact s_retL el_L0 fun a H2 ha x2 h2 => Back.query (r := Planner.run ⟨e⟩ (.totalArrivals m n)) k (by rw [hk]) pl e1 ha x2 h2 (by rw [hk]; rfl)
  · have hb' : ¬ (e.minutes ≤ m ∨ e.minutes ≤ n) := by simp at hb; omega
    have hk : Planner.run ⟨e⟩ (.totalArrivals m n) = (⟨e⟩, .number (sumBetween e.arrivals m n)) := if_neg hb'
    exact s_retL (el_lst (ea_cons (ev_call (ea_cons (ev_var rfl) (ea_cons (ev_var rfl) (ea_cons (ev_var rfl) ea_nil))) (SpPV (ns := [m, n]) (pl.mono e1) ok rfl trivial)) ea_nil) (by show 1 ≤ 100000; decide)) fun a H3 ha x3 h3 => Back.query (r := Planner.run ⟨e⟩ (.totalArrivals m n)) k (by rw [hk]) pl e1 ha x3 h3 (by rw [hk]; rfl)
theorem ev_sumA {σ : L2.St} {H : Hp} {te : TE} {a : Addr} {xs : List Nat} (h : Ev te σ H (.ref a)) (hx : SqL K H a (nv xs)) : Ev (tCB (rSum K) (tCons te tNil)) σ H (.int (xs.sum : Nat)) := fun H1 e Q q =>
  h H1 e _ fun H2 e2 => ⟨a, xs.map Int.ofNat, rfl, ex_l (e.trans e2) hx, by rw [sum_ofNat]; exact q H2 e2⟩
theorem ok_get_state (T : Txt K mg CP CS) (D : Df K mg "get_state" ["planner"] s_get_state) : C8.Cal P w K mg base 1 "get_state" (spRun CP 0 fun _ => .getState) [] := by
  refine cal_of D sc_get_state len_run fun f cdv A outer s H vs Q E hr h => ⟨_, (pss_one (ps_ret (pe_lst (pa_cons (pe_callB call_len_seq (by rfl) T.b_len PySem.boot_len (pa_cons (pe_fld (pv 0) rfl) pa_nil)) (pa_cons (pe_fld (pv 0) rfl) (pa_cons (pe_fld (pv 0) rfl) (pa_cons (pe_fld (pv 0) rfl) (pa_cons (pe_callB (cr_sum rfl) (by rfl) T.b_sum (by decide +kernel) (pa_cons (pe_fld (pv 0) rfl) pa_nil)) pa_nil)))))))), ?_⟩
  obtain ⟨p, dx, l, e, ns, rfl, hn, pl, ok, k⟩ := h
  obtain rfl := List.eq_nil_of_length_eq_zero hn
  exact s_retL (el_lst (ea_cons (ev_nlen T (ev_var rfl) pl) (ea_cons (ev_pg T (ev_var rfl) pl) (ea_cons (ev_mg T (ev_var rfl) pl) (ea_cons (ev_mw T (ev_var rfl) pl) (ea_cons (ev_sumA (ev_ar T (ev_var rfl) pl) (sq_of pl.li)) ea_nil))))) (by show 5 ≤ 100000; decide)) fun a H2 ha x2 h2 => Back.query k rfl pl (Ex.refl H) ha x2 h2 rfl
/-! ### another planner -/
/-- a new planner -/
def RetP (CP : Addr) (e : Entrance) (H : Hp) (Q : VK) : Prop := ∀ (p dx l : Addr) (H2 : Hp), H p = none → H l = none → Ex H H2 → PlanAt CP H2 p dx l e → Q (.ref p) H2
def EvP (CP : Addr) (te : TE) (σ : L2.St) (H : Hp) (e : Entrance) : Prop := ∀ H1, Ex H H1 → ∀ Q : VK, RetP CP e H1 Q → te σ H1 Q
def SpP (CP : Addr) (sp : Sp) (vs : List V) (H : Hp) (e : Entrance) : Prop := ∀ H1, Ex H H1 → ∀ Q : VK, RetP CP e H1 Q → ∀ E : XK, sp vs H1 Q E
section
variable {σ : L2.St} {H : Hp} {te tv : TE} {ta : TA} {E : XK} {e : Entrance} {D : Ends} {tz : TS} {p dx l : Addr}
theorem RetP.mono {H H' : Hp} {Q : VK} (k : RetP CP e H Q) (x : Ex H H') : RetP CP e H' Q := fun p dx l H2 hp hl e2 pl => k p dx l H2 (fresh_back x hp) (fresh_back x hl) (x.trans e2) pl
theorem ep_call {sp : Sp} {vs : List V} (h : EvA ta σ H vs) (hs : SpP CP sp (vs ++ []) H e) : EvP CP (tCall sp [] E ta) σ H e := fun H1 x Q q =>
  h H1 x _ fun H2 x2 => hs H2 (x.trans x2) Q (q.mono x2) E
theorem ev_callP {sp : Sp} {z : V} (h : EvP CP te σ H e) (hs : ∀ (p dx l : Addr) H1, PlanAt CP H1 p dx l e → Ex H H1 → SpV sp [.ref p] H1 z) : Ev (tCall sp [] E (tCons te tNil)) σ H z := fun H1 x Q q =>
  h H1 x _ fun p dx l H2 _ _ x2 pl => hs p dx l H2 pl (x.trans x2) H2 (Ex.refl H2) Q (fun H3 x3 => q H3 (x2.trans x3)) E
theorem q_asgP {i : Nat} (h : EvP CP te σ H e) (k : ∀ p dx l H1, H p = none → H l = none → Ex H H1 → PlanAt CP H1 p dx l e → tz D (σ.set i (some (.ref p))) H1) : tSeq (tAsg te (gName i)) tz D σ H :=
  h H (Ex.refl H) _ fun p dx l H1 hp hl x pl => k p dx l H1 hp hl x pl
theorem q_fldL {C : Addr} {fs : List (Str × V)} {f : Str} {ys : List V} (hv : EvL tv σ H ys) (ha : Ev te σ H (.ref p)) (ho : H p = some (.ins C dx fs)) (hc : Cls K C) (hn : NoAttr K C f) (hl : fs.length < 1000) (k : ∀ a H1, H a = none → Ex H H1 → H1 a = some (.lst ys) → tz D σ (upd H1 p (.ins C dx (putF f (.ref a) fs)))) : tSeq (sFld K te tv f) tz D σ H :=
  s_fldL (D := { D with nx := tz D }) hv ha ho hc hn hl k
end
/-- Planner(per_gate, max_gates, max_wait) -/
def spInit (CP : Addr) : Sp := fun vs H Q _ => ∃ (p dx : Addr) (a b c : Nat), vs = [.ref p, .int (a : Nat), .int (b : Nat), .int (c : Nat)] ∧ H p = some (.ins CP dx []) ∧
  ∀ (l : Addr) (H' : Hp), H l = none → PlanAt CP H' p dx l ⟨a, b, c, []⟩ → (∀ b o, H b = some o → b ≠ p → H' b = some o) → Q .non H'
theorem ok_planner (T : Txt K mg CP CS) (D : Di K mg "Planner" "Planner.__init__" CP ["self", "per_gate", "max_gates", "max_wait"] s_Plannerd_initd) : C8.Mak P w K mg base 1 "Planner" CP (spInit CP) [] := by
  refine mak_of D sc_Plannerd_initd (fun vs H Q E h => by obtain ⟨p, dx, a, b, c, rfl, _⟩ := h; rfl) fun f cdv A outer s H vs Q E hr h => ⟨_, (pss_cons (ps_fld (pv 0) (pv 1) rfl)
      (pss_cons (ps_fld (pv 0) (pv 2) rfl)
      (pss_cons (ps_fld (pv 0) (pv 3) rfl)
      (pss_one (ps_fld (pv 0) (pe_lst pa_nil) rfl))))), ?_⟩
  obtain ⟨p, dx, a, b, c, rfl, hp, k⟩ := h
  refine q_fld (ev_var rfl) (ev_var rfl) hp T.clP T.aPg (by show 0 < 1000; decide) fun H1 e1 => ?_
  refine q_fld (ev_var rfl) (ev_var rfl) upd_same T.clP T.aMg (by show 1 < 1000; decide) fun H2 e2 => ?_
  refine q_fld (ev_var rfl) (ev_var rfl) upd_same T.clP T.aMw (by show 2 < 1000; decide) fun H3 e3 => ?_
  refine s_fldL (el_lst ea_nil (by show 0 ≤ 100000; decide)) (ev_var rfl) upd_same T.clP T.aAr (by show 3 < 1000; decide) fun l H4 hl e4 h4 => ?_
  have nl : l ≠ p := fun q => by rw [q, upd_same] at hl; cases hl
  have n1 : H3 l = none := by rw [upd_ne nl] at hl; exact hl
  have n2 : H2 l = none := by have := fresh_back e3 n1; rw [upd_ne nl] at this; exact this
  have n3 : H1 l = none := by have := fresh_back e2 n2; rw [upd_ne nl] at this; exact this
  refine k l _ (fresh_back e1 n3) ⟨?_, ?_⟩ fun b' o hb hbp => ?_
  · show upd H4 p _ p = _
    rw [upd_same]
    exact congrArg (fun q => some (HO.ins CP dx q)) (pF_new l a b c)
  · show upd H4 p _ l = _
    rw [upd_ne nl]
    exact h4
  · show upd H4 p _ b' = _
    rw [upd_ne hbp]
    refine e4 _ _ ?_
    rw [upd_ne hbp]
    refine e3 _ _ ?_
    rw [upd_ne hbp]
    refine e2 _ _ ?_
    rw [upd_ne hbp]
    exact e1 _ _ hb
theorem ep_make {σ : L2.St} {H : Hp} {ta : TA} {E : XK} {a b c : Nat} (h : EvA ta σ H [.int (a : Nat), .int (b : Nat), .int (c : Nat)]) : EvP CP (tMake CP (spInit CP) [] E ta) σ H ⟨a, b, c, []⟩ := fun H1 x Q q =>
  h H1 x _ fun H2 x2 p dx hp hdx hne => ⟨p, dx, a, b, c, rfl, upd_same, fun l H' hl pl fr => ⟨rfl, by
    have nl : l ≠ p := fun z => by rw [z, upd_same] at hl; cases hl
    rw [upd_ne nl] at hl
    have nd : l ≠ dx := fun z => by rw [z, upd_same] at hl; cases hl
    rw [upd_ne nd] at hl
    refine q p dx l H' (fresh_back x2 hp) (fresh_back x2 hl) (fun b' o hb => ?_) pl
    have hb2 := x2 _ _ hb
    have np : b' ≠ p := fun z => by rw [z, hp] at hb2; cases hb2
    have nx : b' ≠ dx := fun z => by rw [z, hdx] at hb2; cases hb2
    refine fr b' o ?_ np
    rw [upd_ne np, upd_ne nx]
    exact hb2⟩⟩
/-- a planner and numbers in, a new planner out -/
def spLike (CP : Addr) (k : Nat) (ask : Entrance → List Nat → Prop) (g : Entrance → List Nat → Entrance) : Sp := fun vs H Q _ => ∃ (p dx l : Addr) (e : Entrance) (ns : List Nat), vs = .ref p :: nv ns ∧ ns.length = k ∧ PlanAt CP H p dx l e ∧ e.arrivals.length ≤ 1000 ∧ ask e ns ∧ RetP CP (g e ns) H Q
theorem len_like {k : Nat} {ask : Entrance → List Nat → Prop} {g : Entrance → List Nat → Entrance} : ∀ vs H Q E, spLike CP k ask g vs H Q E → vs.length = k + 1 := by
  rintro vs H Q E ⟨p, dx, l, e, ns, rfl, hn, _⟩
  simp [nv, hn]
theorem SpLike {k : Nat} {ask : Entrance → List Nat → Prop} {g : Entrance → List Nat → Entrance} {H : Hp} {p dx l : Addr} {e : Entrance} {ns : List Nat} (pl : PlanAt CP H p dx l e) (ok : Ok e) (hk : ns.length = k) (ha : ask e ns) : SpP CP (spLike CP k ask g) (.ref p :: nv ns) H (g e ns) :=
  fun H1 x Q q _ => ⟨p, dx, l, e, ns, rfl, hk, pl.mono x, by have := ok.len; omega, ha, q⟩
theorem ok_another_like (T : Txt K mg CP CS) (D : Df K mg "another_like" ["planner"] s_another_like) (c_Plannerd_initd : C8.Mak P w K mg base 1 "Planner" CP (spInit CP) []) :
    C8.Cal P w K mg base 3 "another_like" (spLike CP 0 asks0 fun e _ => e) [] := by
  refine cal_of D sc_another_like len_like fun f cdv A outer s H vs Q E hr h => ⟨_, (pss_cons (ps_set (i := 1) sc_another_like.nd rfl (Or.inl rfl) (C8.pe_mk c_Plannerd_initd hr (by decide) (by rfl) (pa_cons (pe_fld (pv 0) rfl) (pa_cons (pe_fld (pv 0) rfl) (pa_cons (pe_fld (pv 0) rfl) pa_nil)))))
      (pss_cons (ps_fld (pv 1) (pe_callTy call_list_of (by rfl) T.b_list (by decide +kernel) (pa_cons (pe_fld (pv 0) rfl) pa_nil)) rfl)
      (pss_one (ps_ret (pv 1))))), ?_⟩
  obtain ⟨p, dx, l, e, ns, rfl, hn, pl, ok, _, k⟩ := h
  obtain rfl := List.eq_nil_of_length_eq_zero hn
  refine q_asgP (ep_make (ea_cons (ev_pg T (ev_var rfl) pl) (ea_cons (ev_mg T (ev_var rfl) pl) (ea_cons (ev_mw T (ev_var rfl) pl) ea_nil)))) fun p2 dx2 l2 H1 hp2 hl2 e1 pl2 => ?_
  refine q_fldL (el_list (ev_ar T (te := tVar 0) (ev_var rfl) (pl.mono e1)) (sq_of (pl.mono e1).li)) (ev_var (v := .ref p2) rfl) pl2.ob T.clP T.aAr (pF_len _ _) fun a H2 ha e2 h2 => ?_
  refine s_ret (ev_var (v := .ref p2) rfl) fun H3 e3 => k p2 dx2 a H3 hp2 (fresh_back e1 ha) ((Ex.mut (e1.trans e2) hp2).trans e3) ⟨e3 _ _ ?_, e3 _ _ ?_⟩
  · rw [upd_same]
    exact congrArg (fun q => some (HO.ins CP dx2 q)) (pF_put_ar _ _ _)
  · have : a ≠ p2 := fun z => by rw [z, pl2.ob] at ha; cases ha
    rw [upd_ne this]
    exact h2
theorem ok_with_max_gates (T : Txt K mg CP CS) (D : Df K mg "with_max_gates" ["planner", "gates"] s_with_max_gates) (c_another_like : C8.Cal P w K mg base 3 "another_like" (spLike CP 0 asks0 fun e _ => e) []) :
    C8.Cal P w K mg base 4 "with_max_gates" (spLike CP 1 asks0 fun e ns => { e with maxGates := ns.getD 0 0 }) [] := by
  refine cal_of D sc_with_max_gates len_like fun f cdv A outer s H vs Q E hr h => ⟨_, (pss_cons (ps_set (i := 2) sc_with_max_gates.nd rfl (Or.inl rfl) (C8.pe_c c_another_like hr (by decide) (by rfl) (pa_cons (pv 0) pa_nil)))
      (pss_cons (ps_fld (pv 2) (pv 1) rfl)
      (pss_one (ps_ret (pv 2))))), ?_⟩
  obtain ⟨p, dx, l, e, ns, rfl, hn, pl, ok, _, k⟩ := h
  obtain ⟨n, rfl⟩ := List.length_eq_one_iff.mp hn
  refine q_asgP (ep_call (ea_cons (ev_var (v := .ref p) rfl) ea_nil) fun H1 x Q q _ => ⟨p, dx, l, e, [], rfl, rfl, pl.mono x, ok, trivial, q⟩) fun p2 dx2 l2 H1 hp2 hl2 e1 pl2 => ?_
  refine q_fld (ev_var (v := .int (n : Nat)) rfl) (ev_var (v := .ref p2) rfl) pl2.ob T.clP T.aMg (pF_len _ _) fun H2 e2 => ?_
  refine s_ret (ev_var (v := .ref p2) rfl) fun H3 e3 => k p2 dx2 l2 H3 hp2 hl2 ((Ex.mut (e1.trans e2) hp2).trans e3) ⟨e3 _ _ ?_, e3 _ _ ?_⟩
  · rw [upd_same]
    exact congrArg (fun q => some (HO.ins CP dx2 q)) (pF_put_mg _ _ _)
  · rw [upd_ne pl2.ne.symm]
    exact e2 _ _ pl2.li
theorem ok_with_max_wait (T : Txt K mg CP CS) (D : Df K mg "with_max_wait" ["planner", "minutes"] s_with_max_wait) (c_another_like : C8.Cal P w K mg base 3 "another_like" (spLike CP 0 asks0 fun e _ => e) []) :
    C8.Cal P w K mg base 4 "with_max_wait" (spLike CP 1 asks0 fun e ns => { e with maxWait := ns.getD 0 0 }) [] := by
  refine cal_of D sc_with_max_wait len_like fun f cdv A outer s H vs Q E hr h => ⟨_, (pss_cons (ps_set (i := 2) sc_with_max_wait.nd rfl (Or.inl rfl) (C8.pe_c c_another_like hr (by decide) (by rfl) (pa_cons (pv 0) pa_nil)))
      (pss_cons (ps_fld (pv 2) (pv 1) rfl)
      (pss_one (ps_ret (pv 2))))), ?_⟩
  obtain ⟨p, dx, l, e, ns, rfl, hn, pl, ok, _, k⟩ := h
  obtain ⟨n, rfl⟩ := List.length_eq_one_iff.mp hn
  refine q_asgP (ep_call (ea_cons (ev_var (v := .ref p) rfl) ea_nil) fun H1 x Q q _ => ⟨p, dx, l, e, [], rfl, rfl, pl.mono x, ok, trivial, q⟩) fun p2 dx2 l2 H1 hp2 hl2 e1 pl2 => ?_
  refine q_fld (ev_var (v := .int (n : Nat)) rfl) (ev_var (v := .ref p2) rfl) pl2.ob T.clP T.aMw (pF_len _ _) fun H2 e2 => ?_
  refine s_ret (ev_var (v := .ref p2) rfl) fun H3 e3 => k p2 dx2 l2 H3 hp2 hl2 ((Ex.mut (e1.trans e2) hp2).trans e3) ⟨e3 _ _ ?_, e3 _ _ ?_⟩
  · rw [upd_same]
    exact congrArg (fun q => some (HO.ins CP dx2 q)) (pF_put_mw _ _ _)
  · rw [upd_ne pl2.ne.symm]
    exact e2 _ _ pl2.li
def asksMin : Entrance → List Nat → Prop := fun e ns => ns.getD 0 0 < e.minutes
theorem ok_with_arrivals (T : Txt K mg CP CS) (D : Df K mg "with_arrivals" ["planner", "minute", "people"] s_with_arrivals) (c_another_like : C8.Cal P w K mg base 3 "another_like" (spLike CP 0 asks0 fun e _ => e) []) :
    C8.Cal P w K mg base 4 "with_arrivals" (spLike CP 2 asksMin fun e ns => e.withArrivals (ns.getD 0 0) (ns.getD 1 0)) [] := by
  refine cal_of D sc_with_arrivals len_like fun f cdv A outer s H vs Q E hr h => ⟨_, (pss_cons (ps_set (i := 3) sc_with_arrivals.nd rfl (Or.inl rfl) (C8.pe_c c_another_like hr (by decide) (by rfl) (pa_cons (pv 0) pa_nil)))
      (pss_cons (ps_asg (pv 2) (pg_sub (pe_fld (pv 3) rfl) (pv 1) set_list))
      (pss_one (ps_ret (pv 3))))), ?_⟩
  obtain ⟨p, dx, l, e, ns, rfl, hn, pl, ok, hm, k⟩ := h
  obtain ⟨m, n, rfl⟩ := two_of hn
  have hm' : m < e.arrivals.length := hm
  refine q_asgP (ep_call (ea_cons (ev_var (v := .ref p) rfl) ea_nil) fun H1 x Q q _ => ⟨p, dx, l, e, [], rfl, rfl, pl.mono x, ok, trivial, q⟩) fun p2 dx2 l2 H1 hp2 hl2 e1 pl2 => ?_
  refine q_setL pl2.li (ev_var (v := .int (n : Nat)) rfl) (ev_ar T (ev_var (v := .ref p2) rfl) pl2) (ev_var (v := .int (m : Nat)) rfl) (by rw [nv_len]; exact hm') fun H2 e2 => ?_
  refine s_ret (ev_var (v := .ref p2) rfl) fun H3 e3 => k p2 dx2 l2 H3 hp2 hl2 ((Ex.mut (e1.trans e2) hl2).trans e3) ⟨e3 _ _ ?_, e3 _ _ ?_⟩
  · rw [upd_ne pl2.ne]
    exact e2 _ _ pl2.ob
  · rw [upd_same, nv_set]
    rfl
end
end GW
set_option Elab.async false
set_option linter.all false
set_option maxRecDepth 100000
set_option maxHeartbeats 4000000
namespace GW
open PySem PySem.Spec PyProof.Rows L2 Evl
open Kv435 (Entrance Planner Operation Response sumBetween)
open GT
section
variable {P : Program} {w : World} {K : PySem.W.Frag} {mg : Str → Option Value} {base : Heap} {CP CS : Addr}
/-- a call on another planner is answered; this one stands as it was -/
theorem Back.other {H H2 : Hp} {Q : VK} {p dx l p2 dx2 l2 : Addr} {e : Entrance} {r r2 : Planner × Response} (k : Back CP H Q p dx l r) (hr : r.1 = ⟨e⟩) (pl : PlanAt CP H p dx l e) (x : Ex H H2) (hp2 : H p2 = none) (hl2 : H l2 = none) (hrow : r2.2 = r.2) : Back CP H2 Q p2 dx2 l2 r2 := by
  intro H' a ha h' pl' fr
  have kp : ∀ b o, H b = some o → H' b = some o := fun b o hb => fr b o (x _ _ hb) (ne_of_none hb hp2) (ne_of_none hb hl2)
  refine k H' a (fresh_back x ha) (by rw [← hrow]; exact h') ?_ fun b o hb _ _ => kp b o hb
  rw [hr]
  exact ⟨kp _ _ pl.ob, kp _ _ pl.li⟩
theorem Ok.withG {e : Entrance} (ok : Ok e) {n : Nat} (h : n ≤ 6) : Ok { e with maxGates := n } := ⟨ok.g1, ok.g2, h, ok.mw, ok.len, ok.arr⟩
theorem Ok.withW {e : Entrance} (ok : Ok e) {n : Nat} (h : n ≤ 6) : Ok { e with maxWait := n } := ⟨ok.g1, ok.g2, ok.mg, h, ok.len, ok.arr⟩
theorem Ok.withA {e : Entrance} (ok : Ok e) {m n : Nat} (h : n ≤ 40) : Ok (e.withArrivals m n) := by
  refine ⟨ok.g1, ok.g2, ok.mg, ok.mw, ?_, fun a ha => ?_⟩
  · show (e.arrivals.set m n).length ≤ 10
    rw [List.length_set]
    exact ok.len
  · rcases List.mem_or_eq_of_mem_set ha with h1 | h1
    · exact ok.arr a h1
    · omega
theorem ok_min_max_gates (T : Txt K mg CP CS) (D : Df K mg "min_max_gates" ["planner"] s_min_max_gates) (c_none_found : C8.Cal P w K mg base 1 "none_found" (spL0 (-33)) [])
    (c_has_feasible_schedule : C8.Cal P w K mg base 4 "has_feasible_schedule" (spPV CP 0 asks0 fun e _ => .bl e.isPossible) [])
    (c_with_max_gates : C8.Cal P w K mg base 4 "with_max_gates" (spLike CP 1 asks0 fun e ns => { e with maxGates := ns.getD 0 0 }) []) :
    C8.Cal P w K mg base 5 "min_max_gates" (spRun CP 0 fun _ => .minMaxGates) [] := by
  refine cal_of D sc_min_max_gates len_run fun f cdv A outer s H vs Q E hr h => ⟨_, (pss_cons (ps_for PassesOwn.never rfl (pi_range1 rfl T.b_range (pa_cons (pe_op op_add (C8.pe_gc (by rfl) T.g_MOST_GATES) pe_int) pa_nil)) (pg_name (i := 1) sc_min_max_gates.nd rfl (Or.inl rfl)) (pss_one (ps_if (pt_val (C8.pe_c c_has_feasible_schedule hr (by decide) (by rfl) (pa_cons (C8.pe_c c_with_max_gates hr (by decide) (by rfl) (pa_cons (pv 0) (pa_cons (pv 1) pa_nil))) pa_nil))) (pss_one (ps_ret (pe_lst (pa_cons (pv 1) pa_nil)))) pss_nil)))
      (pss_one (ps_ret (pe_c0 c_none_found hr (by decide) (by rfl))))), ?_⟩
  obtain ⟨p, dx, l, e, ns, rfl, hn, pl, ok, k⟩ := h
  obtain rfl := List.eq_nil_of_length_eq_zero hn
  refine q_forR1 (n := 7) (ea_cons (ev_is (ev_add ev_c ev_c) rfl) ea_nil) ⟨by omega, by omega⟩ (fun i σ' H' => ∃ v1 : Option V, σ' = [some (.ref p), v1] ∧ Ex H H' ∧ ∀ j, j < i → Entrance.isPossible { e with maxGates := j } = false)
    (fun H1 e1 => ⟨none, rfl, e1, fun t ht => absurd ht (Nat.not_lt_zero t)⟩) ?_ ?_
  · rintro i σ' H' hi ⟨v1, rfl, x, lo⟩
    have hi6 : i ≤ 6 := by omega
    refine s_when (b := Entrance.isPossible { e with maxGates := i }) (et_B (ev_callP (ep_call (ea_cons (ev_var (v := .ref p) rfl) (ea_cons (ev_var (v := .int (i : Nat)) rfl) ea_nil)) (SpLike (ns := [i]) (pl.mono x) ok rfl trivial)) fun p2 dx2 l2 H1 pl2 e1 => SpPV (ns := []) pl2 (ok.withG hi6) rfl trivial)) (fun hb H3 e3 => ?_) fun hb H3 e3 => ?_
    · have hk : Planner.run ⟨e⟩ .minMaxGates = (⟨e⟩, .number i) := by
        show (_, Response.optional _) = _
        rw [first_of (f := fun gates => Entrance.isPossible { e with maxGates := gates }) (by omega : i < 7) hb lo]
        rfl
      exact s_retL (el_lst (ea_cons (ev_var rfl) ea_nil) (by show 1 ≤ 100000; decide)) fun a H4 ha x4 h4 => Back.query (r := Planner.run ⟨e⟩ .minMaxGates) k (by rw [hk]) pl (x.trans e3) ha x4 h4 (by rw [hk]; rfl)
    · refine ⟨_, rfl, x.trans e3, fun j hj => ?_⟩
      by_cases c : j = i
      · subst c; exact hb
      · exact lo j (by omega)
  · rintro σ' H' ⟨v1, rfl, x, lo⟩
    have q0 : (List.range 7).find? (fun g => Entrance.isPossible { e with maxGates := g }) = none := no_first.mpr lo
    have hk : Planner.run ⟨e⟩ .minMaxGates = (⟨e⟩, .error (-33)) := congrArg (fun o => (Planner.mk e, Response.optional o)) q0
    exact s_retL el_L0 fun a H2 ha x2 h2 => Back.query (r := Planner.run ⟨e⟩ .minMaxGates) k (by rw [hk]) pl x ha x2 h2 (by rw [hk]; rfl)
theorem ok_min_max_wait (T : Txt K mg CP CS) (D : Df K mg "min_max_wait" ["planner"] s_min_max_wait) (c_none_found : C8.Cal P w K mg base 1 "none_found" (spL0 (-33)) [])
    (c_has_feasible_schedule : C8.Cal P w K mg base 4 "has_feasible_schedule" (spPV CP 0 asks0 fun e _ => .bl e.isPossible) [])
    (c_with_max_wait : C8.Cal P w K mg base 4 "with_max_wait" (spLike CP 1 asks0 fun e ns => { e with maxWait := ns.getD 0 0 }) []) :
    C8.Cal P w K mg base 5 "min_max_wait" (spRun CP 0 fun _ => .minMaxWait) [] := by
  refine cal_of D sc_min_max_wait len_run fun f cdv A outer s H vs Q E hr h => ⟨_, (pss_cons (ps_for PassesOwn.never rfl (pi_range1 rfl T.b_range (pa_cons (pe_op op_add (C8.pe_gc (by rfl) T.g_MOST_WAIT) pe_int) pa_nil)) (pg_name (i := 1) sc_min_max_wait.nd rfl (Or.inl rfl)) (pss_one (ps_if (pt_val (C8.pe_c c_has_feasible_schedule hr (by decide) (by rfl) (pa_cons (C8.pe_c c_with_max_wait hr (by decide) (by rfl) (pa_cons (pv 0) (pa_cons (pv 1) pa_nil))) pa_nil))) (pss_one (ps_ret (pe_lst (pa_cons (pv 1) pa_nil)))) pss_nil)))
      (pss_one (ps_ret (pe_c0 c_none_found hr (by decide) (by rfl))))), ?_⟩
  obtain ⟨p, dx, l, e, ns, rfl, hn, pl, ok, k⟩ := h
  obtain rfl := List.eq_nil_of_length_eq_zero hn
  refine q_forR1 (n := 7) (ea_cons (ev_is (ev_add ev_c ev_c) rfl) ea_nil) ⟨by omega, by omega⟩ (fun i σ' H' => ∃ v1 : Option V, σ' = [some (.ref p), v1] ∧ Ex H H' ∧ ∀ j, j < i → Entrance.isPossible { e with maxWait := j } = false)
    (fun H1 e1 => ⟨none, rfl, e1, fun t ht => absurd ht (Nat.not_lt_zero t)⟩) ?_ ?_
  · rintro i σ' H' hi ⟨v1, rfl, x, lo⟩
    have hi6 : i ≤ 6 := by omega
    refine s_when (b := Entrance.isPossible { e with maxWait := i }) (et_B (ev_callP (ep_call (ea_cons (ev_var (v := .ref p) rfl) (ea_cons (ev_var (v := .int (i : Nat)) rfl) ea_nil)) (SpLike (ns := [i]) (pl.mono x) ok rfl trivial)) fun p2 dx2 l2 H1 pl2 e1 => SpPV (ns := []) pl2 (ok.withW hi6) rfl trivial)) (fun hb H3 e3 => ?_) fun hb H3 e3 => ?_
    · have hk : Planner.run ⟨e⟩ .minMaxWait = (⟨e⟩, .number i) := by
        show (_, Response.optional _) = _
        rw [first_of (f := fun minutes => Entrance.isPossible { e with maxWait := minutes }) (by omega : i < 7) hb lo]
        rfl
      exact s_retL (el_lst (ea_cons (ev_var rfl) ea_nil) (by show 1 ≤ 100000; decide)) fun a H4 ha x4 h4 => Back.query (r := Planner.run ⟨e⟩ .minMaxWait) k (by rw [hk]) pl (x.trans e3) ha x4 h4 (by rw [hk]; rfl)
    · refine ⟨_, rfl, x.trans e3, fun j hj => ?_⟩
      by_cases c : j = i
      · subst c; exact hb
      · exact lo j (by omega)
  · rintro σ' H' ⟨v1, rfl, x, lo⟩
    have q0 : (List.range 7).find? (fun g => Entrance.isPossible { e with maxWait := g }) = none := no_first.mpr lo
    have hk : Planner.run ⟨e⟩ .minMaxWait = (⟨e⟩, .error (-33)) := congrArg (fun o => (Planner.mk e, Response.optional o)) q0
    exact s_retL el_L0 fun a H2 ha x2 h2 => Back.query (r := Planner.run ⟨e⟩ .minMaxWait) k (by rw [hk]) pl x ha x2 h2 (by rw [hk]; rfl)
theorem ok_gate_minutes_if_arrivals (T : Txt K mg CP CS) (D : Df K mg "gate_minutes_if_arrivals" ["planner", "minute", "people"] s_gate_minutes_if_arrivals) (c_Planner_has_minute : C8.Met P w K mg base 1 CP "has_minute" (spHas CP) [])
    (c_no_such_minute : C8.Cal P w K mg base 1 "no_such_minute" (spL0 (-2)) []) (c_out_of_range : C8.Cal P w K mg base 1 "out_of_range" (spL0 (-22)) [])
    (c_arrivals_allowed : C8.Cal P w K mg base 1 "arrivals_allowed" (spB1 gAr) [])
    (c_min_gate_minutes : C8.Cal P w K mg base 5 "min_gate_minutes" (spRun CP 0 fun _ => .minGateMinutes) [])
    (c_with_arrivals : C8.Cal P w K mg base 4 "with_arrivals" (spLike CP 2 asksMin fun e ns => e.withArrivals (ns.getD 0 0) (ns.getD 1 0)) []) :
    C8.Cal P w K mg base 6 "gate_minutes_if_arrivals" (spRun CP 2 fun ns => .gateMinutesIfArrivals (ns.getD 0 0) (ns.getD 1 0)) [] := by
  refine cal_of D sc_gate_minutes_if_arrivals len_run fun f cdv A outer s H vs Q E hr h => ⟨_, (pss_cons (ps_if (pt_not (pt_val (C8.pe_mt c_Planner_has_minute hr (by decide) (pv 0) (pa_cons (pv 1) pa_nil)))) (pss_one (ps_ret (pe_c0 c_no_such_minute hr (by decide) (by rfl)))) pss_nil)
      (pss_cons (ps_if (pt_not (pt_val (C8.pe_c c_arrivals_allowed hr (by decide) (by rfl) (pa_cons (pv 2) pa_nil)))) (pss_one (ps_ret (pe_c0 c_out_of_range hr (by decide) (by rfl)))) pss_nil)
      (pss_one (ps_ret (C8.pe_c c_min_gate_minutes hr (by decide) (by rfl) (pa_cons (C8.pe_c c_with_arrivals hr (by decide) (by rfl) (pa_cons (pv 0) (pa_cons (pv 1) (pa_cons (pv 2) pa_nil)))) pa_nil)))))), ?_⟩
  obtain ⟨p, dx, l, e, ns, rfl, hn, pl, ok, k⟩ := h
  obtain ⟨m, n, rfl⟩ := two_of hn
  refine q_when (et_not (et_B (ev_has (ev_var rfl) (ev_var (v := .int (m : Nat)) rfl) pl))) (fun hb H1 e1 => ?_) fun hb H1 e1 => ?_
  · have hb' : e.minutes ≤ m := by simp at hb; omega
    have hk : Planner.run ⟨e⟩ (.gateMinutesIfArrivals m n) = (⟨e⟩, .error (-2)) := if_pos hb'
    exact s_retL el_L0 fun a H2 ha x2 h2 => Back.query (r := Planner.run ⟨e⟩ (.gateMinutesIfArrivals m n)) k (by rw [hk]) pl e1 ha x2 h2 (by rw [hk]; rfl)
  · have hb' : ¬ e.minutes ≤ m := by simp at hb; omega
    refine q_when (et_not (et_B1 (ev_var rfl))) (fun hc H2 e2 => ?_) fun hc H2 e2 => ?_
    · have hc' : 40 < n := by simp [gAr] at hc; omega
      have hk : Planner.run ⟨e⟩ (.gateMinutesIfArrivals m n) = (⟨e⟩, .error (-22)) := (if_neg hb').trans (if_pos hc')
      exact s_retL el_L0 fun a H3 ha x3 h3 => Back.query (r := Planner.run ⟨e⟩ (.gateMinutesIfArrivals m n)) k (by rw [hk]) pl (e1.trans e2) ha x3 h3 (by rw [hk]; rfl)
    · have hc' : ¬ 40 < n := by simp [gAr] at hc; omega
      have hk : Planner.run ⟨e⟩ (.gateMinutesIfArrivals m n) = (⟨e⟩, .optional ((e.withArrivals m n).bestSchedule.map List.sum)) := (if_neg hb').trans (if_neg hc')
      have pl2 := pl.mono (e1.trans e2)
      have hm : m < e.minutes := by omega
      refine ep_call (CP := CP) (e := e.withArrivals m n) (ea_cons (ev_var (v := .ref p) rfl) (ea_cons (ev_var (v := .int (m : Nat)) rfl) (ea_cons (ev_var (v := .int (n : Nat)) rfl) ea_nil))) (SpLike (ns := [m, n]) pl2 ok rfl hm) H2 (Ex.refl H2) _ fun p2 dx2 l2 H3 hp2 hl2 e3 pl3 =>
        ⟨p2, dx2, l2, e.withArrivals m n, [], rfl, rfl, pl3, ok.withA (by omega), ?_⟩
      exact Back.other (k.mono (e1.trans e2)) (by show (Planner.run ⟨e⟩ (.gateMinutesIfArrivals m n)).1 = _; rw [hk]) pl2 e3 hp2 hl2 (by show _ = (Planner.run ⟨e⟩ (.gateMinutesIfArrivals m n)).2; rw [hk]; rfl)
theorem ok_gate_minutes_if_max_wait (T : Txt K mg CP CS) (D : Df K mg "gate_minutes_if_max_wait" ["planner", "minutes"] s_gate_minutes_if_max_wait)
    (c_out_of_range : C8.Cal P w K mg base 1 "out_of_range" (spL0 (-22)) [])
    (c_max_wait_allowed : C8.Cal P w K mg base 1 "max_wait_allowed" (spB1 gMg) [])
    (c_min_gate_minutes : C8.Cal P w K mg base 5 "min_gate_minutes" (spRun CP 0 fun _ => .minGateMinutes) [])
    (c_with_max_wait : C8.Cal P w K mg base 4 "with_max_wait" (spLike CP 1 asks0 fun e ns => { e with maxWait := ns.getD 0 0 }) []) :
    C8.Cal P w K mg base 6 "gate_minutes_if_max_wait" (spRun CP 1 fun ns => .gateMinutesIfMaxWait (ns.getD 0 0)) [] := by
  refine cal_of D sc_gate_minutes_if_max_wait len_run fun f cdv A outer s H vs Q E hr h => ⟨_, (pss_cons (ps_if (pt_not (pt_val (C8.pe_c c_max_wait_allowed hr (by decide) (by rfl) (pa_cons (pv 1) pa_nil)))) (pss_one (ps_ret (pe_c0 c_out_of_range hr (by decide) (by rfl)))) pss_nil)
      (pss_one (ps_ret (C8.pe_c c_min_gate_minutes hr (by decide) (by rfl) (pa_cons (C8.pe_c c_with_max_wait hr (by decide) (by rfl) (pa_cons (pv 0) (pa_cons (pv 1) pa_nil))) pa_nil))))), ?_⟩
  obtain ⟨p, dx, l, e, ns, rfl, hn, pl, ok, k⟩ := h
  obtain ⟨n, rfl⟩ := List.length_eq_one_iff.mp hn
  refine q_when (et_not (et_B1 (ev_var rfl))) (fun hc H2 e2 => ?_) fun hc H2 e2 => ?_
  · have hc' : 6 < n := by simp [gMg] at hc; omega
    have hk : Planner.run ⟨e⟩ (.gateMinutesIfMaxWait n) = (⟨e⟩, .error (-22)) := if_pos hc'
    exact s_retL el_L0 fun a H3 ha x3 h3 => Back.query (r := Planner.run ⟨e⟩ (.gateMinutesIfMaxWait n)) k (by rw [hk]) pl e2 ha x3 h3 (by rw [hk]; rfl)
  · have hc' : ¬ 6 < n := by simp [gMg] at hc; omega
    have hk : Planner.run ⟨e⟩ (.gateMinutesIfMaxWait n) = (⟨e⟩, .optional ((Entrance.bestSchedule { e with maxWait := n }).map List.sum)) := if_neg hc'
    have pl2 := pl.mono e2
    refine ep_call (CP := CP) (e := { e with maxWait := n }) (ea_cons (ev_var (v := .ref p) rfl) (ea_cons (ev_var (v := .int (n : Nat)) rfl) ea_nil)) (SpLike (ns := [n]) pl2 ok rfl trivial) H2 (Ex.refl H2) _ fun p2 dx2 l2 H3 hp2 hl2 e3 pl3 =>
      ⟨p2, dx2, l2, { e with maxWait := n }, [], rfl, rfl, pl3, ok.withW (by omega), ?_⟩
    exact Back.other (k.mono e2) (by show (Planner.run ⟨e⟩ (.gateMinutesIfMaxWait n)).1 = _; rw [hk]) pl2 e3 hp2 hl2 (by show _ = (Planner.run ⟨e⟩ (.gateMinutesIfMaxWait n)).2; rw [hk]; rfl)
theorem ok_max_arrivals (T : Txt K mg CP CS) (D : Df K mg "max_arrivals" ["planner", "minute"] s_max_arrivals) (c_Planner_has_minute : C8.Met P w K mg base 1 CP "has_minute" (spHas CP) [])
    (c_no_such_minute : C8.Cal P w K mg base 1 "no_such_minute" (spL0 (-2)) []) (c_none_found : C8.Cal P w K mg base 1 "none_found" (spL0 (-33)) [])
    (c_has_feasible_schedule : C8.Cal P w K mg base 4 "has_feasible_schedule" (spPV CP 0 asks0 fun e _ => .bl e.isPossible) [])
    (c_with_arrivals : C8.Cal P w K mg base 4 "with_arrivals" (spLike CP 2 asksMin fun e ns => e.withArrivals (ns.getD 0 0) (ns.getD 1 0)) []) :
    C8.Cal P w K mg base 5 "max_arrivals" (spRun CP 1 fun ns => .maxArrivals (ns.getD 0 0)) [] := by
  refine cal_of D sc_max_arrivals len_run fun f cdv A outer s H vs Q E hr h => ⟨_, (pss_cons (ps_if (pt_not (pt_val (C8.pe_mt c_Planner_has_minute hr (by decide) (pv 0) (pa_cons (pv 1) pa_nil)))) (pss_one (ps_ret (pe_c0 c_no_such_minute hr (by decide) (by rfl)))) pss_nil)
      (pss_cons (ps_if (pt_not (pt_val (C8.pe_c c_has_feasible_schedule hr (by decide) (by rfl) (pa_cons (pv 0) pa_nil)))) (pss_one (ps_ret (pe_c0 c_none_found hr (by decide) (by rfl)))) pss_nil)
      (pss_cons (ps_set (i := 2) sc_max_arrivals.nd rfl (Or.inl rfl) (pe_ix ix_list (pe_fld (pv 0) rfl) (pv 1) (fun _ _ => rfl)))
      (pss_cons (ps_while PassesOwn.never (PW.pt (pw_and (pt_cmpR op_lt (pv 2) (C8.pe_gc (by rfl) T.g_MOST_ARRIVALS) (nomark _)) (pw_and1 (pt_val (C8.pe_c c_has_feasible_schedule hr (by decide) (by rfl) (pa_cons (C8.pe_c c_with_arrivals hr (by decide) (by rfl) (pa_cons (pv 0) (pa_cons (pv 1) (pa_cons (pe_op op_add (pv 2) pe_int) pa_nil)))) pa_nil)))))) (pss_one (ps_set (i := 2) sc_max_arrivals.nd rfl (Or.inl rfl) (pe_op op_add (pv 2) pe_int))))
      (pss_one (ps_ret (pe_lst (pa_cons (pv 2) pa_nil)))))))), ?_⟩
  obtain ⟨p, dx, l, e, ns, rfl, hn, pl, ok, k⟩ := h
  obtain ⟨m, rfl⟩ := List.length_eq_one_iff.mp hn
  refine q_when (et_not (et_B (ev_has (ev_var rfl) (ev_var (v := .int (m : Nat)) rfl) pl))) (fun hb H1 e1 => ?_) fun hb H1 e1 => ?_
  · have hb' : e.minutes ≤ m := by simp at hb; omega
    have hk : Planner.run ⟨e⟩ (.maxArrivals m) = (⟨e⟩, .error (-2)) := if_pos hb'
    exact s_retL el_L0 fun a H2 ha x2 h2 => Back.query (r := Planner.run ⟨e⟩ (.maxArrivals m)) k (by rw [hk]) pl e1 ha x2 h2 (by rw [hk]; rfl)
  have hb' : ¬ e.minutes ≤ m := by simp at hb; omega
  have hm : m < e.minutes := by omega
  have hm' : m < e.arrivals.length := hm
  refine q_when (b := !e.isPossible) (et_not (et_B (ev_call (ea_cons (ev_var rfl) ea_nil) (SpPV (ns := []) (pl.mono e1) ok rfl trivial)))) (fun hc H2 e2 => ?_) fun hc H2 e2 => ?_
  · have hc' : e.isPossible = false := by simpa using hc
    have hk : Planner.run ⟨e⟩ (.maxArrivals m) = (⟨e⟩, .error (-33)) := (if_neg hb').trans (if_pos hc')
    exact s_retL el_L0 fun a H3 ha x3 h3 => Back.query (r := Planner.run ⟨e⟩ (.maxArrivals m)) k (by rw [hk]) pl (e1.trans e2) ha x3 h3 (by rw [hk]; rfl)
  have hc' : ¬ e.isPossible = false := by simpa using hc
  have hposs : e.isPossible = true := by simpa using hc
  have hk0 : Planner.run ⟨e⟩ (.maxArrivals m) = (⟨e⟩, .number (((List.range 41).filter fun arrivals => (e.withArrivals m arrivals).isPossible).getLast?.getD 0)) := (if_neg hb').trans (if_neg hc')
  have pl2 := pl.mono (e1.trans e2)
  refine q_asg (ev_op (ev_ar T (ev_var rfl) pl2) (ev_var rfl) (rv_ixL (sq_of pl2.li) (atI_nat (nv_get hm')))) fun H3 e3 => ?_
  have hk40 : e.arrivals.getD m 0 ≤ 40 := getD_le_of_all ok.arr m
  refine q_while (fun d σ' H' => ∃ j : Nat, σ' = [some (.ref p), some (.int (m : Nat)), some (.int (j : Nat))] ∧ Ex H H' ∧ (e.withArrivals m j).isPossible = true ∧ d + j = 40) (40 - e.arrivals.getD m 0)
    ⟨e.arrivals.getD m 0, rfl, (e1.trans e2).trans e3, by rw [with_same]; exact hposs, by omega⟩ ?_
  rintro d σ' H' ⟨j, rfl, x, hj, hd⟩
  refine ⟨_, et_and (et_lt (ev_var (v := .int (j : Nat)) rfl) ev_c) fun hlt => et_B (b := (e.withArrivals m (j + 1)).isPossible) (ev_callP (ep_call (e := e.withArrivals m (j + 1)) (ea_cons (ev_var (v := .ref p) rfl) (ea_cons (ev_var (v := .int (m : Nat)) rfl) (ea_cons (ev_is (ev_add (ev_var (v := .int (j : Nat)) rfl) ev_c) (w := .int ((j + 1 : Nat) : Int)) (by congr 1)) ea_nil))) (SpLike (ns := [m, j + 1]) (pl.mono x) ok rfl hm)) fun p2 dx2 l2 H4 pl4 e4 => SpPV (ns := []) pl4 (ok.withA (by have : ((j : Nat) : Int) < 40 := of_decide_eq_true hlt; omega)) rfl trivial), fun hb H4 e4 => ?_, fun hb H4 e4 => ?_⟩
  · rw [Bool.and_eq_true] at hb
    have hlt : ((j : Nat) : Int) < 40 := of_decide_eq_true hb.1
    refine ⟨fun σ2 H5 => ∃ d', d' < d ∧ ∃ j : Nat, σ2 = [some (.ref p), some (.int (m : Nat)), some (.int (j : Nat))] ∧ Ex H H5 ∧ (e.withArrivals m j).isPossible = true ∧ d' + j = 40, fun σ2 H5 z => z, ?_⟩
    refine s_asg (ev_is (ev_add (ev_var (v := .int (j : Nat)) rfl) ev_c) (w := .int ((j + 1 : Nat) : Int)) (by congr 1)) fun H5 e5 => ?_
    exact ⟨d - 1, by omega, j + 1, rfl, (x.trans e4).trans e5, hb.2, by omega⟩
  · have h2 : j = 40 ∨ (e.withArrivals m (j + 1)).isPossible = false := by
      rcases Bool.and_eq_false_iff.mp hb with q | q
      · have : ¬ ((j : Nat) : Int) < 40 := of_decide_eq_false q
        left; omega
      · exact Or.inr q
    have hk : Planner.run ⟨e⟩ (.maxArrivals m) = (⟨e⟩, .number j) := by
      rw [hk0, most_arrivals ok.g1 hm (by omega) hj h2]
    exact s_retL (el_lst (ea_cons (ev_var rfl) ea_nil) (by show 1 ≤ 100000; decide)) fun a H5 ha x5 h5 => Back.query (r := Planner.run ⟨e⟩ (.maxArrivals m)) k (by rw [hk]) pl (x.trans e4) ha x5 h5 (by rw [hk]; rfl)
end
end GW
set_option Elab.async false
set_option linter.all false
set_option maxRecDepth 100000
set_option maxHeartbeats 4000000
namespace GT
open Kv435
/-- the queue a minute later, as the program counts it -/
theorem adm_next {a : List Nat} {p : Nat} {g q : List Nat} (A : Adm a p g q) : Adm a p g (q ++ [min (ps a (q.length + 1) - q.sum) (p * g.getD q.length 0)]) := by
  have := ps_all q (Nat.le_refl _)
  rw [← this]
  exact A.push rfl
theorem queue_at (e : Entrance) (g : List Nat) : e.queueLengths g = (List.range e.scheduleLength).map fun m => ps e.arrivals (m + 1) - ps (e.admitted g) (m + 1) := by
  unfold Entrance.queueLengths
  apply List.map_congr_left
  intro m _
  rw [sb_zero, sb_zero]
end GT
namespace GW
open PySem PySem.Spec PyProof.Rows L2 Evl
open Kv435 (Entrance Planner Operation Response sumBetween)
open GT
theorem cut_nvT (a : List Nat) (t : Nat) : cutV (nv a) none (some (t : Int)) = nv (a.take t) := by
  unfold cutV
  rw [HT.sIx_none, HT.sIx_nat, nv_len]
  simp only [List.drop_zero, Nat.sub_zero]
  by_cases c : t ≤ a.length
  · rw [Nat.min_eq_left c]
    simp [nv, List.map_take]
  · rw [Nat.min_eq_right (by omega), List.take_of_length_le (by simp [nv]), List.take_of_length_le (by omega)]
theorem given_all (n : Nat) (v : Nat → V) : given n (fun _ => true) v = (List.range n).map v := by
  unfold given
  rw [List.filter_eq_self.mpr fun _ _ => rfl]
section
variable {P : Program} {w : World} {K : PySem.W.Frag} {mg : Str → Option Value} {base : Heap} {CP CS : Addr}
theorem ev_allN {σ : L2.St} {H : Hp} {te : TE} {bs : List Bool} (h : EvL te σ H (bs.map V.bl)) : Ev (tCB (rAll K) (tCons te tNil)) σ H (.bl (bs.all id)) := fun H1 e Q q =>
  h H1 e _ fun p H2 _ e2 h2 => ⟨p, bs, rfl, sq_of h2, q H2 e2⟩
theorem ok_arrived_by (T : Txt K mg CP CS) (D : Df K mg "arrived_by" ["planner", "minute"] s_arrived_by)
    (c_arrivals_between : C8.Cal P w K mg base 1 "arrivals_between" (spPV CP 2 asks0 fun e ns => .int (sumBetween e.arrivals (ns.getD 0 0) (ns.getD 1 0) : Nat)) []) :
    C8.Cal P w K mg base 2 "arrived_by" (spPV CP 1 asks0 fun e ns => .int (ps e.arrivals (ns.getD 0 0 + 1) : Nat)) [] := by
  refine cal_of D sc_arrived_by len_PV fun f cdv A outer s H vs Q E hr h => ⟨_, (pss_one (ps_ret (C8.pe_c c_arrivals_between hr (by decide) (by rfl) (pa_cons (pv 0) (pa_cons pe_int (pa_cons (pv 1) pa_nil)))))), ?_⟩
  obtain ⟨p, dx, l, e, ns, rfl, hn, pl, ok, _, k⟩ := h
  obtain ⟨m, rfl⟩ := List.length_eq_one_iff.mp hn
  refine s_ret (ev_is (ev_call (ea_cons (ev_var (v := .ref p) rfl) (ea_cons (ev_c (v := .int (0 : Nat))) (ea_cons (ev_var (v := .int (m : Nat)) rfl) ea_nil))) (SpPV (ns := [0, m]) pl ok rfl trivial)) ?_) k
  show V.int ((sumBetween e.arrivals 0 m : Nat) : Int) = V.int ((ps e.arrivals (m + 1) : Nat) : Int)
  rw [sb_zero]
/-- a planner and a schedule in -/
structure Sch (CP : Addr) (H : Hp) (p dx l ga : Addr) (e : Entrance) (g : List Nat) : Prop where
  pl : PlanAt CP H p dx l e
  ok : Ok e
  hg : H ga = some (.lst (nv g))
theorem Sch.mono {H H' : Hp} {p dx l ga : Addr} {e : Entrance} {g : List Nat} (a : Sch CP H p dx l ga e g) (x : Ex H H') : Sch CP H' p dx l ga e g := ⟨a.pl.mono x, a.ok, x _ _ a.hg⟩
theorem sched_len {e : Entrance} (ok : Ok e) : e.scheduleLength ≤ 16 := by
  have := ok.len
  have := ok.mw
  unfold Entrance.scheduleLength
  have : e.minutes = e.arrivals.length := rfl
  split <;> omega
theorem ps_arr_le {e : Entrance} (ok : Ok e) (k : Nat) : ps e.arrivals k ≤ 400 := by
  have := ps_gap' e.arrivals 40 (getD_le_of_all ok.arr) (show 0 ≤ e.arrivals.length by omega)
  have h2 : ps e.arrivals k ≤ ps e.arrivals e.arrivals.length := by
    by_cases q : k ≤ e.arrivals.length
    · exact ps_mono _ q
    · rw [ps_all _ (by omega), ps_all _ (Nat.le_refl _)]; exact Nat.le_refl _
  have := ok.len
  rw [ps_zero] at *
  omega
def spAdm (CP : Addr) : Sp := fun vs H Q _ => ∃ (p dx l ga : Addr) (e : Entrance) (g : List Nat), vs = [.ref p, .ref ga] ∧ Sch CP H p dx l ga e g ∧ g.length = e.scheduleLength ∧ (∀ x ∈ g, x ≤ 9) ∧ RetL (nv (e.admitted g)) H Q
theorem SpAdm {H : Hp} {p dx l ga : Addr} {e : Entrance} {g : List Nat} (a : Sch CP H p dx l ga e g) (hl : g.length = e.scheduleLength) (h9 : ∀ x ∈ g, x ≤ 9) : SpL (spAdm CP) [.ref p, .ref ga] H (nv (e.admitted g)) :=
  fun H1 x Q q _ => ⟨p, dx, l, ga, e, g, rfl, a.mono x, hl, h9, q⟩
theorem ok_people_admitted (T : Txt K mg CP CS) (D : Df K mg "people_admitted" ["planner", "schedule"] s_people_admitted)
    (c_arrived_by : C8.Cal P w K mg base 2 "arrived_by" (spPV CP 1 asks0 fun e ns => .int (ps e.arrivals (ns.getD 0 0 + 1) : Nat)) []) :
    C8.Cal P w K mg base 3 "people_admitted" (spAdm CP) [] := by
  refine cal_of D sc_people_admitted (fun vs H Q E h => by obtain ⟨p, dx, l, ga, e, g, rfl, _⟩ := h; rfl) fun f cdv A outer s H vs Q E hr h => ⟨_, (pss_cons (ps_set (i := 2) sc_people_admitted.nd rfl (Or.inl rfl) (pe_lst pa_nil))
      (pss_cons (ps_for PassesOwn.never rfl (pi_range1 rfl T.b_range (pa_cons (pe_callB call_len_seq (by rfl) T.b_len PySem.boot_len (pa_cons (pv 1) pa_nil)) pa_nil)) (pg_name (i := 3) sc_people_admitted.nd rfl (Or.inl rfl)) (pss_cons (ps_set (i := 4) sc_people_admitted.nd rfl (Or.inl rfl) (pe_op op_sub (C8.pe_c c_arrived_by hr (by decide) (by rfl) (pa_cons (pv 0) (pa_cons (pv 3) pa_nil))) (pe_callB (cr_sum rfl) (by rfl) T.b_sum (by decide +kernel) (pa_cons (pv 2) pa_nil))))
      (pss_one (ps_expr (pe_bm PySem.F.plainAttrs_list PySem.F.slot_list_append PySem.F.type_list_append mt_append (pv 2) (pa_cons (pe_callB (call_min2 rfl) (by rfl) T.b_min (by decide +kernel) (pa_cons (pv 4) (pa_cons (pe_op op_mul (pe_fld (pv 0) rfl) (pe_ix ix_list (pv 1) (pv 3) (fun _ _ => rfl))) pa_nil))) pa_nil))))))
      (pss_one (ps_ret (pv 2))))), ?_⟩
  obtain ⟨p, dx, l, ga, e, g, rfl, a, hl, h9, k⟩ := h
  have ok := a.ok
  have hL := sched_len ok
  refine q_asgL (el_lst ea_nil (by show 0 ≤ 100000; decide)) fun pa H1 hpa e1 h1 => ?_
  refine q_forR1 (n := ((g.length : Nat) : Int)) (ea_cons (ev_is (ev_len (ev_var (v := .ref ga) rfl) (sq_of (a.mono e1).hg)) (by rw [nv_len])) ea_nil) ⟨by omega, by omega⟩
    (fun i σ' H' => ∃ (q : List Nat) (v3 v4 : Option V), σ' = [some (.ref p), some (.ref ga), some (.ref pa), v3, v4] ∧ Ex H H' ∧ H' pa = some (.lst (nv q)) ∧ Adm e.arrivals e.perGate g q ∧ q.length = i)
    (fun H2 e2 => ⟨[], none, none, rfl, e1.trans e2, e2 _ _ h1, Adm.nil _ _ _, rfl⟩) ?_ ?_
  · rintro i σ' H' hi ⟨q, v3, v4, rfl, x, hq, R, rfl⟩
    have hig : q.length < g.length := by omega
    have hgi : g.getD q.length 0 ≤ 9 := getD_le_of_all h9 _
    have hle := R.le q.length
    rw [ps_all q (Nat.le_refl _)] at hle
    have hmo := ps_mono e.arrivals (show q.length ≤ q.length + 1 by omega)
    have hal := ps_arr_le ok (q.length + 1)
    have am := a.mono x
    refine q_asg (v := .int (((ps e.arrivals (q.length + 1) - q.sum : Nat)) : Int)) (ev_is (ev_sub (ev_call (ea_cons (ev_var (v := .ref p) rfl) (ea_cons (ev_var (v := .int (q.length : Nat)) rfl) ea_nil)) (SpPV (ns := [q.length]) am.pl ok rfl trivial)) (ev_sumA (ev_var (v := .ref pa) rfl) (sq_of hq))) ?_) fun H2 e2 => ?_
    · show V.int (((ps e.arrivals (q.length + 1) : Nat) : Int) - ((q.sum : Nat) : Int)) = _
      congr 1
      omega
    have am2 := am.mono e2
    have hpg := ok.g2
    refine s_app (v := .int ((min (ps e.arrivals (q.length + 1) - q.sum) (e.perGate * g.getD q.length 0) : Nat) : Int)) (e2 _ _ hq) (ev_var (v := .ref pa) rfl) (ev_is (ev_minI (ev_var rfl) (ev_op (ev_pg T (ev_var (v := .ref p) rfl) am2.pl) (ev_op (ev_var (v := .ref ga) rfl) (ev_var (v := .int (q.length : Nat)) rfl) (rv_ixL (sq_of am2.hg) (atI_nat (nv_get hig)))) (rv_I (.inl ⟨by omega, by omega⟩)))) ?_) (by rw [nv_len]; omega) fun H3 e3 => ?_
    · congr 1
      rw [← Int.natCast_mul]
      split <;> omega
    · refine ⟨q ++ [min (ps e.arrivals (q.length + 1) - q.sum) (e.perGate * g.getD q.length 0)], _, _, rfl, Ex.mut ((x.trans e2).trans e3) hpa, ?_, adm_next R, by simp⟩
      rw [upd_same, nv_append]
      rfl
  · rintro σ' H' ⟨q, v3, v4, rfl, x, hq, R, hlq⟩
    have hq2 : q = e.admitted g := by
      obtain ⟨A1, A2⟩ := admitted_adm e g
      refine R.uniq A1 ?_
      rw [A2, hlq, Int.toNat_natCast, hl]
    subst hq2
    exact s_ret (ev_var (v := .ref pa) rfl) fun H3 e3 => k pa H3 hpa (x.trans e3) (e3 _ _ hq)
def spWait (CP : Addr) : Sp := fun vs H Q _ => ∃ (p dx l ga : Addr) (e : Entrance) (g : List Nat), vs = [.ref p, .ref ga] ∧ Sch CP H p dx l ga e g ∧ g.length = e.scheduleLength ∧ (∀ x ∈ g, x ≤ 9) ∧ RetL (nv (e.queueLengths g)) H Q
theorem ok_people_waiting (T : Txt K mg CP CS) (D : Df K mg "people_waiting" ["planner", "schedule"] s_people_waiting)
    (c_arrived_by : C8.Cal P w K mg base 2 "arrived_by" (spPV CP 1 asks0 fun e ns => .int (ps e.arrivals (ns.getD 0 0 + 1) : Nat)) [])
    (c_people_admitted : C8.Cal P w K mg base 3 "people_admitted" (spAdm CP) []) :
    C8.Cal P w K mg base 4 "people_waiting" (spWait CP) [] := by
  refine cal_of D sc_people_waiting (fun vs H Q E h => by obtain ⟨p, dx, l, ga, e, g, rfl, _⟩ := h; rfl) fun f cdv A outer s H vs Q E hr h => ⟨_, (pss_cons (ps_set (i := 2) sc_people_waiting.nd rfl (Or.inr rfl) (C8.pe_c c_people_admitted hr (by decide) (by rfl) (pa_cons (pv 0) (pa_cons (pv 1) pa_nil))))
      (pss_one (ps_ret (pe_lc (own := [("minute", 3)]) (g := gName 3) (tt := tYes) (te := tOp (rI0 fun i j => .int (i - j)) (tCall (spPV CP 1 asks0 fun e ns => .int (ps e.arrivals (ns.getD 0 0 + 1) : Nat)) [] C8.E0 (tCons (tVar 0) (tCons (tVar 3) tNil))) (tCB (rSum K) (tCons (tSl (rSlL K) (tVar 2) tNoPart (tPart (tOp (rI0 fun i j => .int (i + j)) (tVar 3) (tC (.int 1))))) tNil))) rfl sc_people_waiting.nd (pi_range1 rfl T.b_range (pa_cons (pe_callB call_len_seq (by rfl) T.b_len PySem.boot_len (pa_cons (pv 2) pa_nil)) pa_nil)) (blkOk_by (N := ["planner", "schedule", "people", "minute"]) (sc := defScope s_people_waiting) (by decide +kernel)) (fun _ _ _ _ _ => pg_name (i := 3) sc_people_waiting.nd rfl (Or.inl rfl)) (fun _ _ _ _ _ => pts_nil) (fun _ _ _ _ _ => (pe_op op_sub (C8.pe_c c_arrived_by hr (by decide) (by rfl) (pa_cons (pv 0) (pa_cons (pv 3) pa_nil))) (pe_callB (cr_sum rfl) (by rfl) T.b_sum (by decide +kernel) (pa_cons (pe_slice sl_list (pv 2) po_none (po_some (pe_op op_add (pv 3) pe_int))) pa_nil)))))))), ?_⟩
  obtain ⟨p, dx, l, ga, e, g, rfl, a, hl, h9, k⟩ := h
  have ok := a.ok
  have hL := sched_len ok
  obtain ⟨A1, A2⟩ := admitted_adm e g
  refine q_asgL (el_call (ea_cons (ev_var (v := .ref p) rfl) (ea_cons (ev_var (v := .ref ga) rfl) ea_nil)) (SpAdm a hl h9)) fun pa H1 hpa e1 h1 => ?_
  have key : given (((e.admitted g).length : Nat) : Int).toNat (fun _ => true) (fun m => .int ((ps e.arrivals (m + 1) - ps (e.admitted g) (m + 1) : Nat) : Int)) = nv (e.queueLengths g) := by
    rw [given_all, queue_at, Int.toNat_natCast, A2]
    simp [nv]
  refine s_retL (xs := nv (e.queueLengths g)) (by
    rw [← key]
    refine el_lcR1 (n := (((e.admitted g).length : Nat) : Int)) _ _ (ea_cons (ev_is (ev_len (ev_var (v := .ref pa) rfl) (sq_of h1)) (by rw [nv_len])) ea_nil) ⟨by omega, by omega⟩ (fun _ => rfl) (fun i H2 e2 hi => fun H3 _ Q q => q H3 (Ex.refl H3)) fun i H2 e2 hi _ => ?_
    have am := (a.mono e1).mono e2
    have hsl := el_sl (σ := (wipe [some (V.ref p), some (V.ref ga), some (V.ref pa), none] [3]).set 3 (some (.int (i : Nat)))) (K := K) (te := tVar 2) (ev_var (v := .ref pa) rfl) eo_none (eo_some (ev_add (ta := tVar 3) (i := (i : Nat)) (ev_var rfl) (ev_c (v := .int 1)))) (sq_of (e2 _ _ h1))
    rw [show ((i : Nat) : Int) + 1 = ((i + 1 : Nat) : Int) by omega, cut_nvT] at hsl
    refine ev_is (ev_sub (ev_call (ea_cons (ev_var (v := .ref p) rfl) (ea_cons (ev_var (v := .int (i : Nat)) rfl) ea_nil)) (SpPV (ns := [i]) am.pl ok rfl trivial)) (ev_sumN hsl)) ?_
    show V.int (((ps e.arrivals (i + 1) : Nat) : Int) - ((ps (e.admitted g) (i + 1) : Nat) : Int)) = _
    have := A1.le (i + 1)
    congr 1
    omega) fun a3 H3 ha3 e3 h3 => k a3 H3 (fresh_back e1 ha3) (e1.trans e3) h3
def spMoa (CP : Addr) : Sp := fun vs H Q _ => ∃ (p dx l pa : Addr) (e : Entrance) (q : List Nat) (t : Nat), vs = [.ref p, .ref pa, .int (t : Nat)] ∧ Sch CP H p dx l pa e q ∧ q.length ≤ 1000 ∧ t ≤ 1000 ∧
  (∀ m, t ≤ m → m < q.length → ps e.arrivals (t + 1) ≤ ps q (m + 1) → (∀ i, t ≤ i → i < m → ¬ ps e.arrivals (t + 1) ≤ ps q (i + 1)) → RetV (.int (m : Nat)) H Q) ∧
  ((∀ i, t ≤ i → i < q.length → ¬ ps e.arrivals (t + 1) ≤ ps q (i + 1)) → RetV .non H Q)
theorem ok_minute_of_admission (T : Txt K mg CP CS) (D : Df K mg "minute_of_admission" ["planner", "people", "minute"] s_minute_of_admission)
    (c_arrived_by : C8.Cal P w K mg base 2 "arrived_by" (spPV CP 1 asks0 fun e ns => .int (ps e.arrivals (ns.getD 0 0 + 1) : Nat)) []) :
    C8.Cal P w K mg base 3 "minute_of_admission" (spMoa CP) [] := by
  refine cal_of D sc_minute_of_admission (fun vs H Q E h => by obtain ⟨p, dx, l, pa, e, q, t, rfl, _⟩ := h; rfl) fun f cdv A outer s H vs Q E hr h => ⟨_, (pss_cons (ps_for PassesOwn.never rfl (pi_range2 rfl T.b_range (pa_cons (pv 2) (pa_cons (pe_callB call_len_seq (by rfl) T.b_len PySem.boot_len (pa_cons (pv 1) pa_nil)) pa_nil))) (pg_name (i := 3) sc_minute_of_admission.nd rfl (Or.inl rfl)) (pss_one (ps_if (pt_cmpR op_ge (pe_callB (cr_sum rfl) (by rfl) T.b_sum (by decide +kernel) (pa_cons (pe_slice sl_list (pv 1) po_none (po_some (pe_op op_add (pv 3) pe_int))) pa_nil)) (C8.pe_c c_arrived_by hr (by decide) (by rfl) (pa_cons (pv 0) (pa_cons (pv 2) pa_nil))) (nomark _)) (pss_one (ps_ret (pv 3))) pss_nil)))
      (pss_one (ps_ret pe_non))), ?_⟩
  obtain ⟨p, dx, l, pa, e, q, t, rfl, a, hq, ht, kS, kN⟩ := h
  have ok := a.ok
  refine q_forR2 (lo := ((t : Nat) : Int)) (n := ((q.length : Nat) : Int)) (ea_cons (ev_var (v := .int (t : Nat)) rfl) (ea_cons (ev_is (ev_len (ev_var (v := .ref pa) rfl) (sq_of a.hg)) (by rw [nv_len])) ea_nil)) ⟨by omega, by omega, by omega, by omega⟩
    (fun i σ' H' => ∃ v3 : Option V, σ' = [some (.ref p), some (.ref pa), some (.int (t : Nat)), v3] ∧ Ex H H' ∧ ∀ m, t ≤ m → m < t + i → ¬ ps e.arrivals (t + 1) ≤ ps q (m + 1))
    (fun H2 e2 => ⟨none, rfl, e2, fun m h1 h2 => by omega⟩) ?_ ?_
  · rintro i σ' H' hi ⟨v3, rfl, x, lo⟩
    have am := a.mono x
    have hsl := el_sl (σ := [some (.ref p), some (.ref pa), some (.int (t : Nat)), some (.int ((t + i : Nat) : Int))]) (K := K) (te := tVar 1) (ev_var (v := .ref pa) rfl) eo_none (eo_some (ev_add (ta := tVar 3) (i := ((t + i : Nat) : Int)) (ev_var rfl) (ev_c (v := .int 1)))) (sq_of am.hg)
    rw [show ((t + i : Nat) : Int) + 1 = ((t + i + 1 : Nat) : Int) by omega, cut_nvT] at hsl
    have hti : ((t : Nat) : Int) + ((i : Nat) : Int) = ((t + i : Nat) : Int) := by omega
    rw [hti]
    refine s_when (et_ge (ev_sumN hsl) (ev_call (ea_cons (ev_var (v := .ref p) rfl) (ea_cons (ev_var (v := .int (t : Nat)) rfl) ea_nil)) (SpPV (ns := [t]) am.pl ok rfl trivial))) (fun hb H3 e3 => ?_) fun hb H3 e3 => ?_
    · have hb' : ps e.arrivals (t + 1) ≤ ps q (t + i + 1) := Int.ofNat_le.mp (of_decide_eq_true hb)
      exact s_ret (ev_var (v := .int ((t + i : Nat) : Int)) rfl) fun H4 e4 => kS (t + i) (by omega) (by omega) hb' (fun j h1 h2 => lo j h1 h2) H4 ((x.trans e3).trans e4)
    · have hb' : ¬ ps e.arrivals (t + 1) ≤ ps q (t + i + 1) := fun z => of_decide_eq_false hb (Int.ofNat_le.mpr z)
      refine ⟨_, rfl, x.trans e3, fun m h1 h2 => ?_⟩
      by_cases c : m = t + i
      · subst c; exact hb'
      · exact lo m h1 (by omega)
  · rintro σ' H' ⟨v3, rfl, x, lo⟩
    exact s_ret ev_c fun H4 e4 => kN (fun i h1 h2 => lo i h1 (by omega)) H4 (x.trans e4)
def spLw (CP : Addr) : Sp := fun vs H Q _ => ∃ (p dx l ga : Addr) (e : Entrance) (g : List Nat), vs = [.ref p, .ref ga] ∧ Sch CP H p dx l ga e g ∧ g.length = e.scheduleLength ∧ (∀ x ∈ g, x ≤ 9) ∧
  (e.longestWait g = none → RetV .non H Q) ∧ (∀ v : Nat, e.longestWait g = some v → RetV (.int (v : Nat)) H Q)
theorem ok_longest_waiting_time (T : Txt K mg CP CS) (D : Df K mg "longest_waiting_time" ["planner", "schedule"] s_longest_waiting_time)
    (c_people_admitted : C8.Cal P w K mg base 3 "people_admitted" (spAdm CP) [])
    (c_minute_of_admission : C8.Cal P w K mg base 3 "minute_of_admission" (spMoa CP) []) :
    C8.Cal P w K mg base 4 "longest_waiting_time" (spLw CP) [] := by
  refine cal_of D sc_longest_waiting_time (fun vs H Q E h => by obtain ⟨p, dx, l, ga, e, g, rfl, _⟩ := h; rfl) fun f cdv A outer s H vs Q E hr h => ⟨_, (pss_cons (ps_set (i := 2) sc_longest_waiting_time.nd rfl (Or.inl rfl) (C8.pe_c c_people_admitted hr (by decide) (by rfl) (pa_cons (pv 0) (pa_cons (pv 1) pa_nil))))
      (pss_cons (ps_set (i := 3) sc_longest_waiting_time.nd rfl (Or.inl rfl) pe_int)
      (pss_cons (ps_for PassesOwn.never rfl (pi_range1 rfl T.b_range (pa_cons (pe_callB call_len_seq (by rfl) T.b_len PySem.boot_len (pa_cons (pe_fld (pv 0) rfl) pa_nil)) pa_nil)) (pg_name (i := 4) sc_longest_waiting_time.nd rfl (Or.inl rfl)) (pss_one (ps_if (pt_cmpR op_gt (pe_ix ix_list (pe_fld (pv 0) rfl) (pv 4) (fun _ _ => rfl)) pe_int (nomark _)) (pss_cons (ps_set (i := 5) sc_longest_waiting_time.nd rfl (Or.inl rfl) (C8.pe_c c_minute_of_admission hr (by decide) (by rfl) (pa_cons (pv 0) (pa_cons (pv 2) (pa_cons (pv 4) pa_nil)))))
      (pss_cons (ps_if (pt_cmpR op_isN (pv 5) pe_non (nomark _)) (pss_one (ps_ret pe_non)) pss_nil)
      (pss_one (ps_set (i := 3) sc_longest_waiting_time.nd rfl (Or.inl rfl) (pe_callB (call_max2 rfl) (by rfl) T.b_max (by decide +kernel) (pa_cons (pv 3) (pa_cons (pe_op op_sub (pv 5) (pv 4)) pa_nil))))))) pss_nil)))
      (pss_one (ps_ret (pv 3)))))), ?_⟩
  obtain ⟨p, dx, l, ga, e, g, rfl, a, hl, h9, kN, kS⟩ := h
  have ok := a.ok
  have hL := sched_len ok
  have hlen := ok.len
  obtain ⟨A1, A2⟩ := admitted_adm e g
  refine q_asgL (el_call (ea_cons (ev_var (v := .ref p) rfl) (ea_cons (ev_var (v := .ref ga) rfl) ea_nil)) (SpAdm a hl h9)) fun pa H1 hpa e1 h1 => ?_
  refine q_asg (v := .int ((0 : Nat) : Int)) ev_c fun H2 e2 => ?_
  have a2 := (a.mono e1).mono e2
  refine q_forR1 (n := ((e.arrivals.length : Nat) : Int)) (ea_cons (ev_nlen T (ev_var (v := .ref p) rfl) a2.pl) ea_nil) ⟨by omega, by omega⟩
    (fun i σ' H' => ∃ (v : Nat) (v4 v5 : Option V), σ' = [some (.ref p), some (.ref ga), some (.ref pa), some (.int (v : Nat)), v4, v5] ∧ Ex H H' ∧ H' pa = some (.lst (nv (e.admitted g))) ∧ lw e g i = some v)
    (fun H3 e3 => ⟨0, none, none, rfl, (e1.trans e2).trans e3, e3 _ _ (e2 _ _ h1), lw_zero e g⟩) ?_ ?_
  · rintro i σ' H' hi ⟨v, v4, v5, rfl, x, hp, hv⟩
    have hi' : i < e.arrivals.length := by omega
    have am := a.mono x
    refine s_when (et_is (et_test (ev_op (ev_op (ev_ar T (ev_var (v := .ref p) rfl) am.pl) (ev_var (v := .int (i : Nat)) rfl) (rv_ixL (sq_of am.pl.li) (atI_nat (nv_get hi')))) (ev_c (v := .int 0)) rv_I0)) (b := decide (¬ e.arrivals.getD i 0 = 0)) ?_) (fun hb H3 e3 => ?_) fun hb H3 e3 => ?_
    · apply decide_eq_decide.mpr
      omega
    · have hb' : ¬ e.arrivals.getD i 0 = 0 := of_decide_eq_true hb
      have am3 := am.mono e3
      refine ⟨_, rfl, _, rfl, _, rfl, p, dx, l, pa, e, e.admitted g, i, rfl, ⟨am3.pl, ok, e3 _ _ hp⟩, by omega, by omega, fun m hm1 hm2 hm3 hm4 H4 e4 => ?_, fun hno H4 e4 => ?_⟩
      · have hf : lwFind e g i = some m := lwFind_iff (by omega) hm1 hm3 hm4
        refine q_when (b := false) (et_isN (v := .int (m : Nat)) (ev_var rfl) (decide_eq_false (by intro z; cases z))) (fun z => by cases z) fun _ H5 e5 => ?_
        refine s_asg (v := .int ((max v (m - i) : Nat) : Int)) (ev_is (ev_maxI (ev_var (v := .int (v : Nat)) rfl) (ev_sub (ev_var (v := .int (m : Nat)) rfl) (ev_var (v := .int (i : Nat)) rfl))) ?_) fun H6 e6 => ?_
        · congr 1
          split <;> omega
        · exact ⟨_, _, _, rfl, (((x.trans e3).trans e4).trans e5).trans e6, e6 _ _ (e5 _ _ (e4 _ _ (e3 _ _ hp))), lw_more hb' hv hf⟩
      · have hf : lwFind e g i = none := lwFind_no fun j h1 h2 => hno j h1 (by omega)
        refine q_when (b := true) (et_isN (v := .non) (ev_var rfl) (decide_eq_true rfl)) (fun _ H5 e5 => ?_) fun z => by cases z
        exact s_ret ev_c fun H6 e6 => kN (lw_lost hi' hb' hf) H6 ((((x.trans e3).trans e4).trans e5).trans e6)
    · have hb' : e.arrivals.getD i 0 = 0 := by simpa using hb
      exact ⟨v, _, _, rfl, x.trans e3, e3 _ _ hp, by rw [lw_skip hb']; exact hv⟩
  · rintro σ' H' ⟨v, v4, v5, rfl, x, hp, hv⟩
    exact s_ret (ev_var (v := .int (v : Nat)) rfl) fun H3 e3 => kS v (by rw [longestWait_lw]; exact hv) H3 (x.trans e3)
end
end GW
set_option Elab.async false
set_option linter.all false
set_option maxRecDepth 100000
set_option maxHeartbeats 4000000
namespace GW
open PySem PySem.Spec PyProof.Rows L2 Evl
open Kv435 (Entrance Planner Operation Response sumBetween)
open GT
section
variable {P : Program} {w : World} {K : PySem.W.Frag} {mg : Str → Option Value} {base : Heap} {CP CS : Addr}
def spForm (CP : Addr) : Sp := fun vs H Q _ => ∃ (p dx l ga : Addr) (e : Entrance) (g : List Nat), vs = [.ref p, .ref ga] ∧ Sch CP H p dx l ga e g ∧ g.length ≤ 40000 ∧ RetV (.bl (e.isSchedule g)) H Q
theorem SpForm {H : Hp} {p dx l ga : Addr} {e : Entrance} {g : List Nat} (a : Sch CP H p dx l ga e g) (hz : g.length ≤ 40000) : SpV (spForm CP) [.ref p, .ref ga] H (.bl (e.isSchedule g)) :=
  fun H1 x Q q _ => ⟨p, dx, l, ga, e, g, rfl, a.mono x, hz, q⟩
theorem ok_has_form (T : Txt K mg CP CS) (D : Df K mg "has_form" ["planner", "schedule"] s_has_form)
    (c_schedule_length : C8.Cal P w K mg base 1 "schedule_length" (spPV CP 0 asks0 fun e _ => .int (e.scheduleLength : Nat)) [])
    (c_gates_allowed : C8.Cal P w K mg base 1 "gates_allowed" (spB1 gIn) []) :
    C8.Cal P w K mg base 2 "has_form" (spForm CP) [] := by
  refine cal_of D sc_has_form (fun vs H Q E h => by obtain ⟨p, dx, l, ga, e, g, rfl, _⟩ := h; rfl) fun f cdv A outer s H vs Q E hr h => ⟨_, (pss_one (ps_ret (pe_and (pe_cmpR op_eq (pe_callB call_len_seq (by rfl) T.b_len PySem.boot_len (pa_cons (pv 1) pa_nil)) (C8.pe_c c_schedule_length hr (by decide) (by rfl) (pa_cons (pv 0) pa_nil)) (nomark _)) (pe_one (pe_callB (cr_all rfl) (by rfl) T.b_all (by decide +kernel) (pa_cons (pe_lc (own := [("gates", 2)]) (g := gName 2) (tt := tYes) rfl sc_has_form.nd (pi_list (pv 1)) (blkOk_by (N := ["planner", "schedule", "gates"]) (sc := defScope s_has_form) (by decide +kernel)) (fun _ _ _ _ _ => pg_name (i := 2) sc_has_form.nd rfl (Or.inl rfl)) (fun _ _ _ _ _ => pts_nil) (fun _ _ _ _ _ => (C8.pe_c c_gates_allowed hr (by decide) (by rfl) (pa_cons (pv 2) pa_nil)))) pa_nil)))))), ?_⟩
  obtain ⟨p, dx, l, ga, e, g, rfl, a, hz, k⟩ := h
  have ok := a.ok
  have key : given (nv g).length (fun _ => true) (fun i => .bl (gIn (g.getD i 0 : Nat))) = (g.map fun x => gIn (x : Nat)).map V.bl := by
    rw [given_all, nv_len]
    apply List.ext_getElem
    · simp
    · intro i h1 h2
      simp at h1 h2
      simp [h1]
  have hall : EvL (tLc (iList K (tVar 1)) (gName 2) tYes (tCall (spB1 gIn) [] C8.E0 (tCons (tVar 2) tNil)) [2]) (start ["planner", "schedule", "gates"] [.ref p, .ref ga]) H ((g.map fun x => gIn (x : Nat)).map V.bl) := by
    rw [← key]
    refine el_lcL _ _ (ev_var (v := .ref ga) rfl) (sq_of a.hg) (by rw [nv_len]; exact hz) (fun _ => rfl) (fun i x H2 e2 hi => fun H3 _ Q q => q H3 (Ex.refl H3)) fun i x H2 e2 hi _ => ?_
    have hi2 : i < g.length := by
      have := (List.getElem?_eq_some_iff.mp hi).1
      rwa [nv_len] at this
    rw [nv_get hi2] at hi
    obtain rfl := Option.some.inj hi
    exact ev_B1 (ev_var rfl)
  refine s_ret (ev_is (ev_andV (ev_op (ev_is (ev_len (ev_var (v := .ref ga) rfl) (sq_of a.hg)) (by rw [nv_len])) (ev_call (ea_cons (ev_var (v := .ref p) rfl) ea_nil) (SpPV (ns := []) a.pl ok rfl trivial)) (rv_eq (x := .int (g.length : Nat)) (y := .int (e.scheduleLength : Nat)) rfl)) fun _ => ev_allN hall) ?_) k
  congr 1
  unfold Entrance.isSchedule
  congr 1
  · by_cases c : g.length = e.scheduleLength
    · rw [c]; simp
    · have : ¬ (V.int (g.length : Nat) = V.int (e.scheduleLength : Nat)) := by
        intro q
        injection q with q
        omega
      rw [decide_eq_false this]
      simp [c]
  · rw [List.all_map]
    congr 1
    funext x
    show decide (((x : Nat) : Int) ≤ 9) = decide (x ≤ 9)
    apply decide_eq_decide.mpr
    omega
/-- a call on the planner with a row -/
def spRow (CP : Addr) (o : List Nat → Operation) : Sp := fun vs H Q _ => ∃ (p dx l ga : Addr) (e : Entrance) (g : List Nat), vs = [.ref p, .ref ga] ∧ Sch CP H p dx l ga e g ∧ g.length ≤ 40000 ∧ Back CP H Q p dx l (Planner.run ⟨e⟩ (o g))
theorem len_row {o : List Nat → Operation} : ∀ vs H Q E, spRow CP o vs H Q E → vs.length = 2 := by
  rintro vs H Q E ⟨p, dx, l, ga, e, g, rfl, _⟩
  rfl
theorem form_of {e : Entrance} {g : List Nat} (h : e.isSchedule g = true) : g.length = e.scheduleLength ∧ ∀ x ∈ g, x ≤ 9 := by
  unfold Entrance.isSchedule at h
  simp only [Bool.and_eq_true, beq_iff_eq, List.all_eq_true, decide_eq_true_eq] at h
  exact h
theorem ok_admitted (T : Txt K mg CP CS) (D : Df K mg "admitted" ["planner", "schedule"] s_admitted) (c_has_form : C8.Cal P w K mg base 2 "has_form" (spForm CP) [])
    (c_out_of_range : C8.Cal P w K mg base 1 "out_of_range" (spL0 (-22)) []) (c_counted : C8.Cal P w K mg base 1 "counted" spCounted [])
    (c_people_admitted : C8.Cal P w K mg base 3 "people_admitted" (spAdm CP) []) :
    C8.Cal P w K mg base 4 "admitted" (spRow CP .admitted) [] := by
  refine cal_of D sc_admitted len_row fun f cdv A outer s H vs Q E hr h => ⟨_, (pss_cons (ps_if (pt_not (pt_val (C8.pe_c c_has_form hr (by decide) (by rfl) (pa_cons (pv 0) (pa_cons (pv 1) pa_nil))))) (pss_one (ps_ret (pe_c0 c_out_of_range hr (by decide) (by rfl)))) pss_nil)
      (pss_one (ps_ret (C8.pe_c c_counted hr (by decide) (by rfl) (pa_cons (C8.pe_c c_people_admitted hr (by decide) (by rfl) (pa_cons (pv 0) (pa_cons (pv 1) pa_nil))) pa_nil))))), ?_⟩
  obtain ⟨p, dx, l, ga, e, g, rfl, a, hz, k⟩ := h
  have ok := a.ok
  refine q_when (b := !e.isSchedule g) (et_not (et_B (ev_call (ea_cons (ev_var (v := .ref p) rfl) (ea_cons (ev_var (v := .ref ga) rfl) ea_nil)) (SpForm a hz)))) (fun hb H1 e1 => ?_) fun hb H1 e1 => ?_
  · have hb' : e.isSchedule g = false := by simpa using hb
    have hk : Planner.run ⟨e⟩ (.admitted g) = (⟨e⟩, .error (-22)) := if_pos hb'
    exact s_retL el_L0 fun r H2 ha x2 h2 => Back.query (r := Planner.run ⟨e⟩ (.admitted g)) k (by rw [hk]) a.pl e1 ha x2 h2 (by rw [hk]; rfl)
  · have hb' : e.isSchedule g = true := by simpa using hb
    obtain ⟨hl, h9⟩ := form_of hb'
    have hk : Planner.run ⟨e⟩ (.admitted g) = (⟨e⟩, .list (e.admitted g)) := if_neg (by rw [hb']; decide)
    have hsz : (e.admitted g).length ≤ 16 := by rw [(admitted_adm e g).2]; exact sched_len ok
    exact s_retL (el_counted (el_call (ea_cons (ev_var (v := .ref p) rfl) (ea_cons (ev_var (v := .ref ga) rfl) ea_nil)) (SpAdm (a.mono e1) hl h9)) (by rw [nv_len]; omega)) fun r H2 ha x2 h2 => Back.query (r := Planner.run ⟨e⟩ (.admitted g)) k (by rw [hk]) a.pl e1 ha x2 h2 (by rw [hk, nv_len]; rfl)
theorem queue_len (e : Entrance) (g : List Nat) : (e.queueLengths g).length = e.scheduleLength := by
  rw [queue_at]; simp
theorem ok_queue_lengths (T : Txt K mg CP CS) (D : Df K mg "queue_lengths" ["planner", "schedule"] s_queue_lengths) (c_has_form : C8.Cal P w K mg base 2 "has_form" (spForm CP) [])
    (c_out_of_range : C8.Cal P w K mg base 1 "out_of_range" (spL0 (-22)) []) (c_counted : C8.Cal P w K mg base 1 "counted" spCounted [])
    (c_people_waiting : C8.Cal P w K mg base 4 "people_waiting" (spWait CP) []) :
    C8.Cal P w K mg base 5 "queue_lengths" (spRow CP .queueLengths) [] := by
  refine cal_of D sc_queue_lengths len_row fun f cdv A outer s H vs Q E hr h => ⟨_, (pss_cons (ps_if (pt_not (pt_val (C8.pe_c c_has_form hr (by decide) (by rfl) (pa_cons (pv 0) (pa_cons (pv 1) pa_nil))))) (pss_one (ps_ret (pe_c0 c_out_of_range hr (by decide) (by rfl)))) pss_nil)
      (pss_one (ps_ret (C8.pe_c c_counted hr (by decide) (by rfl) (pa_cons (C8.pe_c c_people_waiting hr (by decide) (by rfl) (pa_cons (pv 0) (pa_cons (pv 1) pa_nil))) pa_nil))))), ?_⟩
  obtain ⟨p, dx, l, ga, e, g, rfl, a, hz, k⟩ := h
  have ok := a.ok
  refine q_when (b := !e.isSchedule g) (et_not (et_B (ev_call (ea_cons (ev_var (v := .ref p) rfl) (ea_cons (ev_var (v := .ref ga) rfl) ea_nil)) (SpForm a hz)))) (fun hb H1 e1 => ?_) fun hb H1 e1 => ?_
  · have hb' : e.isSchedule g = false := by simpa using hb
    have hk : Planner.run ⟨e⟩ (.queueLengths g) = (⟨e⟩, .error (-22)) := if_pos hb'
    exact s_retL el_L0 fun r H2 ha x2 h2 => Back.query (r := Planner.run ⟨e⟩ (.queueLengths g)) k (by rw [hk]) a.pl e1 ha x2 h2 (by rw [hk]; rfl)
  · have hb' : e.isSchedule g = true := by simpa using hb
    obtain ⟨hl, h9⟩ := form_of hb'
    have hk : Planner.run ⟨e⟩ (.queueLengths g) = (⟨e⟩, .list (e.queueLengths g)) := if_neg (by rw [hb']; decide)
    have hsz : (e.queueLengths g).length ≤ 16 := by rw [queue_len]; exact sched_len ok
    have a1 := a.mono e1
    exact s_retL (el_counted (el_call (ea_cons (ev_var (v := .ref p) rfl) (ea_cons (ev_var (v := .ref ga) rfl) ea_nil)) (xs := nv (e.queueLengths g)) fun H2 x Q q _ => ⟨p, dx, l, ga, e, g, rfl, a1.mono x, hl, h9, q⟩) (by rw [nv_len]; omega)) fun r H2 ha x2 h2 => Back.query (r := Planner.run ⟨e⟩ (.queueLengths g)) k (by rw [hk]) a.pl e1 ha x2 h2 (by rw [hk, nv_len]; rfl)
theorem ok_longest_wait (T : Txt K mg CP CS) (D : Df K mg "longest_wait" ["planner", "schedule"] s_longest_wait) (c_has_form : C8.Cal P w K mg base 2 "has_form" (spForm CP) [])
    (c_out_of_range : C8.Cal P w K mg base 1 "out_of_range" (spL0 (-22)) []) (c_none_found : C8.Cal P w K mg base 1 "none_found" (spL0 (-33)) [])
    (c_longest_waiting_time : C8.Cal P w K mg base 4 "longest_waiting_time" (spLw CP) []) :
    C8.Cal P w K mg base 5 "longest_wait" (spRow CP .longestWait) [] := by
  refine cal_of D sc_longest_wait len_row fun f cdv A outer s H vs Q E hr h => ⟨_, (pss_cons (ps_if (pt_not (pt_val (C8.pe_c c_has_form hr (by decide) (by rfl) (pa_cons (pv 0) (pa_cons (pv 1) pa_nil))))) (pss_one (ps_ret (pe_c0 c_out_of_range hr (by decide) (by rfl)))) pss_nil)
      (pss_cons (ps_set (i := 2) sc_longest_wait.nd rfl (Or.inl rfl) (C8.pe_c c_longest_waiting_time hr (by decide) (by rfl) (pa_cons (pv 0) (pa_cons (pv 1) pa_nil))))
      (pss_cons (ps_if (pt_cmpR op_isN (pv 2) pe_non (nomark _)) (pss_one (ps_ret (pe_c0 c_none_found hr (by decide) (by rfl)))) pss_nil)
      (pss_one (ps_ret (pe_lst (pa_cons (pv 2) pa_nil))))))), ?_⟩
  obtain ⟨p, dx, l, ga, e, g, rfl, a, hz, k⟩ := h
  have ok := a.ok
  refine q_when (b := !e.isSchedule g) (et_not (et_B (ev_call (ea_cons (ev_var (v := .ref p) rfl) (ea_cons (ev_var (v := .ref ga) rfl) ea_nil)) (SpForm a hz)))) (fun hb H1 e1 => ?_) fun hb H1 e1 => ?_
  · have hb' : e.isSchedule g = false := by simpa using hb
    have hk : Planner.run ⟨e⟩ (.longestWait g) = (⟨e⟩, .error (-22)) := if_pos hb'
    exact s_retL el_L0 fun r H2 ha x2 h2 => Back.query (r := Planner.run ⟨e⟩ (.longestWait g)) k (by rw [hk]) a.pl e1 ha x2 h2 (by rw [hk]; rfl)
  · have hb' : e.isSchedule g = true := by simpa using hb
    obtain ⟨hl, h9⟩ := form_of hb'
    have hk : Planner.run ⟨e⟩ (.longestWait g) = (⟨e⟩, .optional (e.longestWait g)) := if_neg (by rw [hb']; decide)
    refine ⟨_, rfl, _, rfl, p, dx, l, ga, e, g, rfl, a.mono e1, hl, h9, fun hw H2 e2 => ?_, fun v hw H2 e2 => ?_⟩
    · refine q_when (b := true) (et_isN (v := .non) (ev_var rfl) (decide_eq_true rfl)) (fun _ H3 e3 => ?_) fun z => by cases z
      exact s_retL el_L0 fun r H4 ha x4 h4 => Back.query (r := Planner.run ⟨e⟩ (.longestWait g)) k (by rw [hk]) a.pl ((e1.trans e2).trans e3) ha x4 h4 (by rw [hk, hw]; rfl)
    · refine q_when (b := false) (et_isN (v := .int (v : Nat)) (ev_var rfl) (decide_eq_false (by intro z; cases z))) (fun z => by cases z) fun _ H3 e3 => ?_
      exact s_retL (el_lst (ea_cons (ev_var (v := .int (v : Nat)) rfl) ea_nil) (by show 1 ≤ 100000; decide)) fun r H4 ha x4 h4 => Back.query (r := Planner.run ⟨e⟩ (.longestWait g)) k (by rw [hk]) a.pl ((e1.trans e2).trans e3) ha x4 h4 (by rw [hk, hw]; rfl)
theorem ok_is_feasible (T : Txt K mg CP CS) (D : Df K mg "is_feasible" ["planner", "schedule"] s_is_feasible) (c_has_form : C8.Cal P w K mg base 2 "has_form" (spForm CP) [])
    (c_out_of_range : C8.Cal P w K mg base 1 "out_of_range" (spL0 (-22)) [])
    (c_longest_waiting_time : C8.Cal P w K mg base 4 "longest_waiting_time" (spLw CP) []) :
    C8.Cal P w K mg base 5 "is_feasible" (spRow CP .isFeasible) [] := by
  refine cal_of D sc_is_feasible len_row fun f cdv A outer s H vs Q E hr h => ⟨_, (pss_cons (ps_if (pt_not (pt_val (C8.pe_c c_has_form hr (by decide) (by rfl) (pa_cons (pv 0) (pa_cons (pv 1) pa_nil))))) (pss_one (ps_ret (pe_c0 c_out_of_range hr (by decide) (by rfl)))) pss_nil)
      (pss_cons (ps_set (i := 2) sc_is_feasible.nd rfl (Or.inl rfl) (C8.pe_c c_longest_waiting_time hr (by decide) (by rfl) (pa_cons (pv 0) (pa_cons (pv 1) pa_nil))))
      (pss_cons (ps_if (PW.pt (pw_or (pt_cmpR op_isN (pv 2) pe_non (nomark _)) (pw_or (pt_cmpR op_gt (pv 2) (pe_fld (pv 0) rfl) (nomark _)) (pw_or1 (pt_cmpR op_gt (pe_callBK (cr_maxDef rfl) (by rfl) T.b_max (by decide +kernel) (pa_cons (pv 1) pa_nil) (pk_cons pe_int pk_nil)) (pe_fld (pv 0) rfl) (nomark _)))))) (pss_one (ps_ret (pe_lst (pa_cons pe_int pa_nil)))) pss_nil)
      (pss_one (ps_ret (pe_lst (pa_cons pe_int pa_nil))))))), ?_⟩
  obtain ⟨p, dx, l, ga, e, g, rfl, a, hz, k⟩ := h
  have ok := a.ok
  refine q_when (b := !e.isSchedule g) (et_not (et_B (ev_call (ea_cons (ev_var (v := .ref p) rfl) (ea_cons (ev_var (v := .ref ga) rfl) ea_nil)) (SpForm a hz)))) (fun hb H1 e1 => ?_) fun hb H1 e1 => ?_
  · have hb' : e.isSchedule g = false := by simpa using hb
    have hk : Planner.run ⟨e⟩ (.isFeasible g) = (⟨e⟩, .error (-22)) := if_pos hb'
    exact s_retL el_L0 fun r H2 ha x2 h2 => Back.query (r := Planner.run ⟨e⟩ (.isFeasible g)) k (by rw [hk]) a.pl e1 ha x2 h2 (by rw [hk]; rfl)
  · have hb' : e.isSchedule g = true := by simpa using hb
    obtain ⟨hl, h9⟩ := form_of hb'
    have hk : Planner.run ⟨e⟩ (.isFeasible g) = (⟨e⟩, .number (Kv435.flag (e.isFeasible g))) := if_neg (by rw [hb']; decide)
    have hfe := feasible_iff hl
    have fin : ∀ (b : Bool) (H2 : Hp), Ex H H2 → b = e.isFeasible g → ∀ r H4, H2 r = none → Ex H2 H4 → H4 r = some (.lst [.int (if b then 1 else 0)]) → Q (.ref r) H4 := fun b H2 x hbf r H4 hr x4 h4 =>
      Back.query (r := Planner.run ⟨e⟩ (.isFeasible g)) k (by rw [hk]) a.pl x hr x4 h4 (by rw [hk, ← hbf]; cases b <;> rfl)
    refine ⟨_, rfl, _, rfl, p, dx, l, ga, e, g, rfl, a.mono e1, hl, h9, fun hw H2 e2 => ?_, fun v hw H2 e2 => ?_⟩
    · have hno : e.isFeasible g = false := by
        cases q : e.isFeasible g with
        | false => rfl
        | true =>
          obtain ⟨⟨u, hu, _⟩, _⟩ := hfe.mp q
          rw [hw] at hu; cases hu
      refine q_when (et_or (et_isN (v := .non) (b := true) (ev_var rfl) (decide_eq_true rfl)) (b := false) fun z => by cases z) (fun _ H3 e3 => ?_) fun z => by cases z
      exact s_retL (el_lst (ea_cons ev_c ea_nil) (by show 1 ≤ 100000; decide)) fun r H4 ha x4 h4 => fin false H3 ((e1.trans e2).trans e3) hno.symm r H4 ha x4 h4
    · have a2 := (a.mono e1).mono e2
      obtain ⟨mx, hmx, hev⟩ := ev_maxD (K := K) (te := tVar 1) (σ := [some (.ref p), some (.ref ga), some (.int (v : Nat))]) (ev_var (v := .ref ga) rfl) (sq_of (K := K) a2.hg)
      refine q_when (et_or (et_isN (v := .int (v : Nat)) (b := false) (ev_var rfl) (decide_eq_false (by intro z; cases z))) fun _ => et_or (et_test (ev_op (ev_var (v := .int (v : Nat)) rfl) (ev_mw T (ev_var (v := .ref p) rfl) a2.pl) rv_I0)) fun _ => et_test (ev_op hev (ev_mg T (ev_var (v := .ref p) rfl) a2.pl) rv_I0)) (fun hc H3 e3 => ?_) fun hc H3 e3 => ?_
      · have hno : e.isFeasible g = false := by
          cases q : e.isFeasible g with
          | false => rfl
          | true =>
            obtain ⟨⟨u, hu, hW⟩, hG⟩ := hfe.mp q
            rw [hw] at hu
            obtain rfl := Option.some.inj hu
            have hG' := (hmx e.maxGates).mpr hG
            simp at hc
            omega
        exact s_retL (el_lst (ea_cons ev_c ea_nil) (by show 1 ≤ 100000; decide)) fun r H4 ha x4 h4 => fin false H3 ((e1.trans e2).trans e3) hno.symm r H4 ha x4 h4
      · have hyes : e.isFeasible g = true := by
          simp at hc
          exact hfe.mpr ⟨⟨v, hw, by omega⟩, (hmx e.maxGates).mp (by omega)⟩
        exact s_retL (el_lst (ea_cons ev_c ea_nil) (by show 1 ≤ 100000; decide)) fun r H4 ha x4 h4 => fin true H3 ((e1.trans e2).trans e3) hyes.symm r H4 ha x4 h4
end
end GW
set_option Elab.async false
set_option linter.all false
set_option maxRecDepth 100000
set_option maxHeartbeats 4000000
namespace GW
open PySem PySem.Spec PyProof.Rows L2 Evl
open Kv435 (Entrance Planner Operation Response sumBetween State execute validSettings)
open GT
/-! ### which call a number with its numbers is -/
inductive OpAt : Nat → List Nat → Operation → Prop
  | create (a b c : Nat) : OpAt 0 [a, b, c] (.create a b c)
  | addMinute (a : Nat) : OpAt 1 [a] (.addMinute a)
  | setArrivals (a b : Nat) : OpAt 2 [a, b] (.setArrivals a b)
  | removeLastMinute : OpAt 3 [] .removeLastMinute
  | setPerGate (a : Nat) : OpAt 4 [a] (.setPerGate a)
  | setMaxGates (a : Nat) : OpAt 5 [a] (.setMaxGates a)
  | setMaxWait (a : Nat) : OpAt 6 [a] (.setMaxWait a)
  | listArrivals : OpAt 7 [] .listArrivals
  | bestSchedule : OpAt 8 [] .bestSchedule
  | minGateMinutes : OpAt 9 [] .minGateMinutes
  | isPossible : OpAt 10 [] .isPossible
  | infeasibleInterval : OpAt 11 [] .infeasibleInterval
  | isFeasible (g : List Nat) : OpAt 12 g (.isFeasible g)
  | admitted (g : List Nat) : OpAt 13 g (.admitted g)
  | queueLengths (g : List Nat) : OpAt 14 g (.queueLengths g)
  | longestWait (g : List Nat) : OpAt 15 g (.longestWait g)
  | minMaxGates : OpAt 16 [] .minMaxGates
  | minMaxWait : OpAt 17 [] .minMaxWait
  | gateMinutesIfArrivals (a b : Nat) : OpAt 18 [a, b] (.gateMinutesIfArrivals a b)
  | gateMinutesIfMaxWait (a : Nat) : OpAt 19 [a] (.gateMinutesIfMaxWait a)
  | maxArrivals (a : Nat) : OpAt 20 [a] (.maxArrivals a)
  | totalArrivals (a b : Nat) : OpAt 21 [a, b] (.totalArrivals a b)
  | getState : OpAt 22 [] .getState
theorem OpAt.lt {n : Nat} {ns : List Nat} {o : Operation} (h : OpAt n ns o) : n < 23 := by cases h <;> decide
section
variable {P : Program} {w : World} {K : PySem.W.Frag} {mg : Str → Option Value} {base : Heap} {CP CS : Addr}
section
variable {σ : L2.St} {H : Hp} {ta : TA} {E : XK} {D : Ends} {p dx l ga : Addr} {e : Entrance} {ns : List Nat}
theorem s_run {k : Nat} {g : List Nat → Operation} (h : EvA ta σ H (.ref p :: nv ns)) (hk : ns.length = k) (pl : PlanAt CP H p dx l e) (ok : Ok e) (b : Back CP H D.rt p dx l (Planner.run ⟨e⟩ (g ns))) : tRet (tCall (spRun CP k g) [] E ta) D σ H :=
  h H (Ex.refl H) _ fun H1 x => ⟨p, dx, l, e, ns, by rw [List.append_nil], hk, pl.mono x, ok, b.mono x⟩
theorem s_row {o : List Nat → Operation} (h : EvA ta σ H [.ref p, .ref ga]) (pl : PlanAt CP H p dx l e) (ok : Ok e) (hg : H ga = some (.lst (nv ns))) (hz : ns.length ≤ 40000) (b : Back CP H D.rt p dx l (Planner.run ⟨e⟩ (o ns))) : tRet (tCall (spRow CP o) [] E ta) D σ H :=
  h H (Ex.refl H) _ fun H1 x => ⟨p, dx, l, ga, e, ns, rfl, ⟨pl.mono x, ok, x _ _ hg⟩, hz, b.mono x⟩
theorem ev_arg {te : TE} {i : Nat} (h : Ev te σ H (.ref ga)) (hg : H ga = some (.lst (nv ns))) (hi : i < ns.length) : Ev (tOp (rIxL K) te (tC (.int (i : Nat)))) σ H (.int (ns.getD i 0 : Nat)) :=
  ev_op h ev_c (rv_ixL (sq_of hg) (atI_nat (nv_get hi)))
end
/-- planner, number, its numbers in; the call is done -/
def spDo (CP : Addr) (lo hi : Nat) : Sp := fun vs H Q _ => ∃ (p dx l ar : Addr) (e : Entrance) (n : Nat) (ns : List Nat) (o : Operation), vs = [.ref p, .int (n : Nat), .ref ar] ∧ lo ≤ n ∧ n < hi ∧ OpAt n ns o ∧ H ar = some (.lst (nv ns)) ∧ ns.length ≤ 40000 ∧ PlanAt CP H p dx l e ∧ Ok e ∧ Back CP H Q p dx l (Planner.run ⟨e⟩ o)
def spAsk (CP : Addr) (lo hi : Nat) : Sp := fun vs H Q _ => ∃ (p dx l : Addr) (e : Entrance) (n : Nat) (ns : List Nat) (o : Operation), vs = [.ref p, .int (n : Nat)] ∧ lo ≤ n ∧ n < hi ∧ OpAt n ns o ∧ PlanAt CP H p dx l e ∧ Ok e ∧ Back CP H Q p dx l (Planner.run ⟨e⟩ o)
theorem len_do {lo hi : Nat} : ∀ vs H Q E, spDo CP lo hi vs H Q E → vs.length = 3 := by
  rintro vs H Q E ⟨p, dx, l, ar, e, n, ns, o, rfl, _⟩
  rfl
theorem len_ask {lo hi : Nat} : ∀ vs H Q E, spAsk CP lo hi vs H Q E → vs.length = 2 := by
  rintro vs H Q E ⟨p, dx, l, e, n, ns, o, rfl, _⟩
  rfl
theorem eq_of_dec {n m : Nat} (h : decide (((n : Nat) : Int) = ((m : Nat) : Int)) = true) : n = m := Int.ofNat_inj.mp (of_decide_eq_true h)
theorem ne_of_dec {n m : Nat} (h : decide (((n : Nat) : Int) = ((m : Nat) : Int)) = false) : n ≠ m := fun e => of_decide_eq_false h (by rw [e])
theorem ok_change (T : Txt K mg CP CS) (D : Df K mg "change" ["planner", "number", "arguments"] s_change)
    (c_add_minute : C8.Cal P w K mg base 2 "add_minute" (spRun CP 1 fun ns => .addMinute (ns.getD 0 0)) [])
    (c_set_arrivals : C8.Cal P w K mg base 2 "set_arrivals" (spRun CP 2 fun ns => .setArrivals (ns.getD 0 0) (ns.getD 1 0)) [])
    (c_remove_last_minute : C8.Cal P w K mg base 2 "remove_last_minute" (spRun CP 0 fun _ => .removeLastMinute) [])
    (c_set_per_gate : C8.Cal P w K mg base 2 "set_per_gate" (spRun CP 1 fun ns => .setPerGate (ns.getD 0 0)) [])
    (c_set_max_gates : C8.Cal P w K mg base 2 "set_max_gates" (spRun CP 1 fun ns => .setMaxGates (ns.getD 0 0)) [])
    (c_set_max_wait : C8.Cal P w K mg base 2 "set_max_wait" (spRun CP 1 fun ns => .setMaxWait (ns.getD 0 0)) []) :
    C8.Cal P w K mg base 3 "change" (spDo CP 1 7) [] := by
  refine cal_of D sc_change len_do fun f cdv A outer s H vs Q E hr h => ⟨_, (pss_cons (ps_if (pt_cmpR op_eq (pv 1) pe_int (nomark _)) (pss_one (ps_ret (C8.pe_c c_add_minute hr (by decide) (by rfl) (pa_cons (pv 0) (pa_cons (pe_ix ix_list (pv 2) pe_int (fun _ _ => rfl)) pa_nil))))) pss_nil)
      (pss_cons (ps_if (pt_cmpR op_eq (pv 1) pe_int (nomark _)) (pss_one (ps_ret (C8.pe_c c_set_arrivals hr (by decide) (by rfl) (pa_cons (pv 0) (pa_cons (pe_ix ix_list (pv 2) pe_int (fun _ _ => rfl)) (pa_cons (pe_ix ix_list (pv 2) pe_int (fun _ _ => rfl)) pa_nil)))))) pss_nil)
      (pss_cons (ps_if (pt_cmpR op_eq (pv 1) pe_int (nomark _)) (pss_one (ps_ret (C8.pe_c c_remove_last_minute hr (by decide) (by rfl) (pa_cons (pv 0) pa_nil)))) pss_nil)
      (pss_cons (ps_if (pt_cmpR op_eq (pv 1) pe_int (nomark _)) (pss_one (ps_ret (C8.pe_c c_set_per_gate hr (by decide) (by rfl) (pa_cons (pv 0) (pa_cons (pe_ix ix_list (pv 2) pe_int (fun _ _ => rfl)) pa_nil))))) pss_nil)
      (pss_cons (ps_if (pt_cmpR op_eq (pv 1) pe_int (nomark _)) (pss_one (ps_ret (C8.pe_c c_set_max_gates hr (by decide) (by rfl) (pa_cons (pv 0) (pa_cons (pe_ix ix_list (pv 2) pe_int (fun _ _ => rfl)) pa_nil))))) pss_nil)
      (pss_one (ps_ret (C8.pe_c c_set_max_wait hr (by decide) (by rfl) (pa_cons (pv 0) (pa_cons (pe_ix ix_list (pv 2) pe_int (fun _ _ => rfl)) pa_nil)))))))))), ?_⟩
  obtain ⟨p, dx, l, ar, e, n, ns, o, rfl, hlo, hhi, ho, har, hz, pl, ok, k⟩ := h
  refine q_when (et_eqi (ev_var (v := .int (n : Nat)) rfl) (ev_c (v := .int (1 : Nat)))) (fun hb H1 e1 => ?_) fun hb1 H1 e1 => ?_
  · obtain rfl := eq_of_dec hb
    cases ho with
    | addMinute a => exact s_run (ns := [a]) (ea_cons (ev_var (v := .ref p) rfl) (ea_cons (ev_arg (i := 0) (ns := [a]) (ev_var (v := .ref ar) rfl) (e1 _ _ har) (by decide : 0 < 1)) ea_nil)) rfl (pl.mono e1) ok (k.mono e1)
  refine q_when (et_eqi (ev_var (v := .int (n : Nat)) rfl) (ev_c (v := .int (2 : Nat)))) (fun hb H2 e2 => ?_) fun hb2 H2 e2 => ?_
  · obtain rfl := eq_of_dec hb
    cases ho with
    | setArrivals a b => exact s_run (ns := [a, b]) (ea_cons (ev_var (v := .ref p) rfl) (ea_cons (ev_arg (i := 0) (ns := [a, b]) (ev_var (v := .ref ar) rfl) (e2 _ _ (e1 _ _ har)) (by decide : 0 < 2)) (ea_cons (ev_arg (i := 1) (ns := [a, b]) (ev_var (v := .ref ar) rfl) (e2 _ _ (e1 _ _ har)) (by decide : 1 < 2)) ea_nil))) rfl ((pl.mono e1).mono e2) ok ((k.mono e1).mono e2)
  have x2 := e1.trans e2
  refine q_when (et_eqi (ev_var (v := .int (n : Nat)) rfl) (ev_c (v := .int (3 : Nat)))) (fun hb H3 e3 => ?_) fun hb3 H3 e3 => ?_
  · obtain rfl := eq_of_dec hb
    cases ho with
    | removeLastMinute => exact s_run (ns := []) (ea_cons (ev_var (v := .ref p) rfl) ea_nil) rfl (pl.mono (x2.trans e3)) ok (k.mono (x2.trans e3))
  have x3 := x2.trans e3
  refine q_when (et_eqi (ev_var (v := .int (n : Nat)) rfl) (ev_c (v := .int (4 : Nat)))) (fun hb H4 e4 => ?_) fun hb4 H4 e4 => ?_
  · obtain rfl := eq_of_dec hb
    cases ho with
    | setPerGate a => exact s_run (ns := [a]) (ea_cons (ev_var (v := .ref p) rfl) (ea_cons (ev_arg (i := 0) (ns := [a]) (ev_var (v := .ref ar) rfl) (e4 _ _ (x3 _ _ har)) (by decide : 0 < 1)) ea_nil)) rfl (pl.mono (x3.trans e4)) ok (k.mono (x3.trans e4))
  have x4 := x3.trans e4
  refine q_when (et_eqi (ev_var (v := .int (n : Nat)) rfl) (ev_c (v := .int (5 : Nat)))) (fun hb H5 e5 => ?_) fun hb5 H5 e5 => ?_
  · obtain rfl := eq_of_dec hb
    cases ho with
    | setMaxGates a => exact s_run (ns := [a]) (ea_cons (ev_var (v := .ref p) rfl) (ea_cons (ev_arg (i := 0) (ns := [a]) (ev_var (v := .ref ar) rfl) (e5 _ _ (x4 _ _ har)) (by decide : 0 < 1)) ea_nil)) rfl (pl.mono (x4.trans e5)) ok (k.mono (x4.trans e5))
  have x5 := x4.trans e5
  have h6 : n = 6 := by
    have := ne_of_dec hb1; have := ne_of_dec hb2; have := ne_of_dec hb3; have := ne_of_dec hb4; have := ne_of_dec hb5
    omega
  subst h6
  cases ho with
  | setMaxWait a => exact s_run (ns := [a]) (ea_cons (ev_var (v := .ref p) rfl) (ea_cons (ev_arg (i := 0) (ns := [a]) (ev_var (v := .ref ar) rfl) (x5 _ _ har) (by decide : 0 < 1)) ea_nil)) rfl (pl.mono x5) ok (k.mono x5)
theorem ok_query (T : Txt K mg CP CS) (D : Df K mg "query" ["planner", "number"] s_query)
    (c_list_arrivals : C8.Cal P w K mg base 2 "list_arrivals" (spRun CP 0 fun _ => .listArrivals) [])
    (c_best_schedule : C8.Cal P w K mg base 5 "best_schedule" (spRun CP 0 fun _ => .bestSchedule) [])
    (c_min_gate_minutes : C8.Cal P w K mg base 5 "min_gate_minutes" (spRun CP 0 fun _ => .minGateMinutes) [])
    (c_is_possible : C8.Cal P w K mg base 5 "is_possible" (spRun CP 0 fun _ => .isPossible) [])
    (c_infeasible_interval : C8.Cal P w K mg base 4 "infeasible_interval" (spRun CP 0 fun _ => .infeasibleInterval) []) :
    C8.Cal P w K mg base 6 "query" (spAsk CP 7 12) [] := by
  refine cal_of D sc_query len_ask fun f cdv A outer s H vs Q E hr h => ⟨_, (pss_cons (ps_if (pt_cmpR op_eq (pv 1) pe_int (nomark _)) (pss_one (ps_ret (C8.pe_c c_list_arrivals hr (by decide) (by rfl) (pa_cons (pv 0) pa_nil)))) pss_nil)
      (pss_cons (ps_if (pt_cmpR op_eq (pv 1) pe_int (nomark _)) (pss_one (ps_ret (C8.pe_c c_best_schedule hr (by decide) (by rfl) (pa_cons (pv 0) pa_nil)))) pss_nil)
      (pss_cons (ps_if (pt_cmpR op_eq (pv 1) pe_int (nomark _)) (pss_one (ps_ret (C8.pe_c c_min_gate_minutes hr (by decide) (by rfl) (pa_cons (pv 0) pa_nil)))) pss_nil)
      (pss_cons (ps_if (pt_cmpR op_eq (pv 1) pe_int (nomark _)) (pss_one (ps_ret (C8.pe_c c_is_possible hr (by decide) (by rfl) (pa_cons (pv 0) pa_nil)))) pss_nil)
      (pss_one (ps_ret (C8.pe_c c_infeasible_interval hr (by decide) (by rfl) (pa_cons (pv 0) pa_nil)))))))), ?_⟩
  obtain ⟨p, dx, l, e, n, ns, o, rfl, hlo, hhi, ho, pl, ok, k⟩ := h
  refine q_when (et_eqi (ev_var (v := .int (n : Nat)) rfl) (ev_c (v := .int (7 : Nat)))) (fun hb H1 e1 => ?_) fun hb1 H1 e1 => ?_
  · obtain rfl := eq_of_dec hb
    cases ho with
    | listArrivals => exact s_run (ns := []) (ea_cons (ev_var (v := .ref p) rfl) ea_nil) rfl (pl.mono e1) ok (k.mono e1)
  refine q_when (et_eqi (ev_var (v := .int (n : Nat)) rfl) (ev_c (v := .int (8 : Nat)))) (fun hb H2 e2 => ?_) fun hb2 H2 e2 => ?_
  · obtain rfl := eq_of_dec hb
    cases ho with
    | bestSchedule => exact s_run (ns := []) (ea_cons (ev_var (v := .ref p) rfl) ea_nil) rfl ((pl.mono e1).mono e2) ok ((k.mono e1).mono e2)
  have x2 := e1.trans e2
  refine q_when (et_eqi (ev_var (v := .int (n : Nat)) rfl) (ev_c (v := .int (9 : Nat)))) (fun hb H3 e3 => ?_) fun hb3 H3 e3 => ?_
  · obtain rfl := eq_of_dec hb
    cases ho with
    | minGateMinutes => exact s_run (ns := []) (ea_cons (ev_var (v := .ref p) rfl) ea_nil) rfl (pl.mono (x2.trans e3)) ok (k.mono (x2.trans e3))
  have x3 := x2.trans e3
  refine q_when (et_eqi (ev_var (v := .int (n : Nat)) rfl) (ev_c (v := .int (10 : Nat)))) (fun hb H4 e4 => ?_) fun hb4 H4 e4 => ?_
  · obtain rfl := eq_of_dec hb
    cases ho with
    | isPossible => exact s_run (ns := []) (ea_cons (ev_var (v := .ref p) rfl) ea_nil) rfl (pl.mono (x3.trans e4)) ok (k.mono (x3.trans e4))
  have x4 := x3.trans e4
  have h6 : n = 11 := by
    have := ne_of_dec hb1; have := ne_of_dec hb2; have := ne_of_dec hb3; have := ne_of_dec hb4
    omega
  subst h6
  cases ho with
  | infeasibleInterval => exact s_run (ns := []) (ea_cons (ev_var (v := .ref p) rfl) ea_nil) rfl (pl.mono x4) ok (k.mono x4)
theorem ok_evaluate (T : Txt K mg CP CS) (D : Df K mg "evaluate" ["planner", "number", "schedule"] s_evaluate)
    (c_is_feasible : C8.Cal P w K mg base 5 "is_feasible" (spRow CP .isFeasible) [])
    (c_admitted : C8.Cal P w K mg base 4 "admitted" (spRow CP .admitted) [])
    (c_queue_lengths : C8.Cal P w K mg base 5 "queue_lengths" (spRow CP .queueLengths) [])
    (c_longest_wait : C8.Cal P w K mg base 5 "longest_wait" (spRow CP .longestWait) []) :
    C8.Cal P w K mg base 6 "evaluate" (spDo CP 12 16) [] := by
  refine cal_of D sc_evaluate len_do fun f cdv A outer s H vs Q E hr h => ⟨_, (pss_cons (ps_if (pt_cmpR op_eq (pv 1) pe_int (nomark _)) (pss_one (ps_ret (C8.pe_c c_is_feasible hr (by decide) (by rfl) (pa_cons (pv 0) (pa_cons (pv 2) pa_nil))))) pss_nil)
      (pss_cons (ps_if (pt_cmpR op_eq (pv 1) pe_int (nomark _)) (pss_one (ps_ret (C8.pe_c c_admitted hr (by decide) (by rfl) (pa_cons (pv 0) (pa_cons (pv 2) pa_nil))))) pss_nil)
      (pss_cons (ps_if (pt_cmpR op_eq (pv 1) pe_int (nomark _)) (pss_one (ps_ret (C8.pe_c c_queue_lengths hr (by decide) (by rfl) (pa_cons (pv 0) (pa_cons (pv 2) pa_nil))))) pss_nil)
      (pss_one (ps_ret (C8.pe_c c_longest_wait hr (by decide) (by rfl) (pa_cons (pv 0) (pa_cons (pv 2) pa_nil)))))))), ?_⟩
  obtain ⟨p, dx, l, ar, e, n, ns, o, rfl, hlo, hhi, ho, har, hz, pl, ok, k⟩ := h
  refine q_when (et_eqi (ev_var (v := .int (n : Nat)) rfl) (ev_c (v := .int (12 : Nat)))) (fun hb H1 e1 => ?_) fun hb1 H1 e1 => ?_
  · obtain rfl := eq_of_dec hb
    cases ho with
    | isFeasible => exact s_row (ea_cons (ev_var (v := .ref p) rfl) (ea_cons (ev_var (v := .ref ar) rfl) ea_nil)) (pl.mono e1) ok (e1 _ _ har) hz (k.mono e1)
  refine q_when (et_eqi (ev_var (v := .int (n : Nat)) rfl) (ev_c (v := .int (13 : Nat)))) (fun hb H2 e2 => ?_) fun hb2 H2 e2 => ?_
  · obtain rfl := eq_of_dec hb
    cases ho with
    | admitted => exact s_row (ea_cons (ev_var (v := .ref p) rfl) (ea_cons (ev_var (v := .ref ar) rfl) ea_nil)) (pl.mono (e1.trans e2)) ok (e2 _ _ (e1 _ _ har)) hz (k.mono (e1.trans e2))
  have x2 := e1.trans e2
  refine q_when (et_eqi (ev_var (v := .int (n : Nat)) rfl) (ev_c (v := .int (14 : Nat)))) (fun hb H3 e3 => ?_) fun hb3 H3 e3 => ?_
  · obtain rfl := eq_of_dec hb
    cases ho with
    | queueLengths => exact s_row (ea_cons (ev_var (v := .ref p) rfl) (ea_cons (ev_var (v := .ref ar) rfl) ea_nil)) (pl.mono (x2.trans e3)) ok (e3 _ _ (x2 _ _ har)) hz (k.mono (x2.trans e3))
  have x3 := x2.trans e3
  have h6 : n = 15 := by
    have := ne_of_dec hb1; have := ne_of_dec hb2; have := ne_of_dec hb3
    omega
  subst h6
  cases ho with
  | longestWait => exact s_row (ea_cons (ev_var (v := .ref p) rfl) (ea_cons (ev_var (v := .ref ar) rfl) ea_nil)) (pl.mono x3) ok (x3 _ _ har) hz (k.mono x3)
theorem ok_ask_what_if (T : Txt K mg CP CS) (D : Df K mg "ask_what_if" ["planner", "number", "arguments"] s_ask_what_if)
    (c_min_max_gates : C8.Cal P w K mg base 5 "min_max_gates" (spRun CP 0 fun _ => .minMaxGates) [])
    (c_min_max_wait : C8.Cal P w K mg base 5 "min_max_wait" (spRun CP 0 fun _ => .minMaxWait) [])
    (c_gate_minutes_if_arrivals : C8.Cal P w K mg base 6 "gate_minutes_if_arrivals" (spRun CP 2 fun ns => .gateMinutesIfArrivals (ns.getD 0 0) (ns.getD 1 0)) [])
    (c_gate_minutes_if_max_wait : C8.Cal P w K mg base 6 "gate_minutes_if_max_wait" (spRun CP 1 fun ns => .gateMinutesIfMaxWait (ns.getD 0 0)) [])
    (c_max_arrivals : C8.Cal P w K mg base 5 "max_arrivals" (spRun CP 1 fun ns => .maxArrivals (ns.getD 0 0)) []) :
    C8.Cal P w K mg base 7 "ask_what_if" (spDo CP 16 21) [] := by
  refine cal_of D sc_ask_what_if len_do fun f cdv A outer s H vs Q E hr h => ⟨_, (pss_cons (ps_if (pt_cmpR op_eq (pv 1) pe_int (nomark _)) (pss_one (ps_ret (C8.pe_c c_min_max_gates hr (by decide) (by rfl) (pa_cons (pv 0) pa_nil)))) pss_nil)
      (pss_cons (ps_if (pt_cmpR op_eq (pv 1) pe_int (nomark _)) (pss_one (ps_ret (C8.pe_c c_min_max_wait hr (by decide) (by rfl) (pa_cons (pv 0) pa_nil)))) pss_nil)
      (pss_cons (ps_if (pt_cmpR op_eq (pv 1) pe_int (nomark _)) (pss_one (ps_ret (C8.pe_c c_gate_minutes_if_arrivals hr (by decide) (by rfl) (pa_cons (pv 0) (pa_cons (pe_ix ix_list (pv 2) pe_int (fun _ _ => rfl)) (pa_cons (pe_ix ix_list (pv 2) pe_int (fun _ _ => rfl)) pa_nil)))))) pss_nil)
      (pss_cons (ps_if (pt_cmpR op_eq (pv 1) pe_int (nomark _)) (pss_one (ps_ret (C8.pe_c c_gate_minutes_if_max_wait hr (by decide) (by rfl) (pa_cons (pv 0) (pa_cons (pe_ix ix_list (pv 2) pe_int (fun _ _ => rfl)) pa_nil))))) pss_nil)
      (pss_one (ps_ret (C8.pe_c c_max_arrivals hr (by decide) (by rfl) (pa_cons (pv 0) (pa_cons (pe_ix ix_list (pv 2) pe_int (fun _ _ => rfl)) pa_nil))))))))), ?_⟩
  obtain ⟨p, dx, l, ar, e, n, ns, o, rfl, hlo, hhi, ho, har, hz, pl, ok, k⟩ := h
  refine q_when (et_eqi (ev_var (v := .int (n : Nat)) rfl) (ev_c (v := .int (16 : Nat)))) (fun hb H1 e1 => ?_) fun hb1 H1 e1 => ?_
  · obtain rfl := eq_of_dec hb
    cases ho with
    | minMaxGates => exact s_run (ns := []) (ea_cons (ev_var (v := .ref p) rfl) ea_nil) rfl (pl.mono e1) ok (k.mono e1)
  refine q_when (et_eqi (ev_var (v := .int (n : Nat)) rfl) (ev_c (v := .int (17 : Nat)))) (fun hb H2 e2 => ?_) fun hb2 H2 e2 => ?_
  · obtain rfl := eq_of_dec hb
    cases ho with
    | minMaxWait => exact s_run (ns := []) (ea_cons (ev_var (v := .ref p) rfl) ea_nil) rfl (pl.mono (e1.trans e2)) ok (k.mono (e1.trans e2))
  have x2 := e1.trans e2
  refine q_when (et_eqi (ev_var (v := .int (n : Nat)) rfl) (ev_c (v := .int (18 : Nat)))) (fun hb H3 e3 => ?_) fun hb3 H3 e3 => ?_
  · obtain rfl := eq_of_dec hb
    cases ho with
    | gateMinutesIfArrivals a b => exact s_run (ns := [a, b]) (ea_cons (ev_var (v := .ref p) rfl) (ea_cons (ev_arg (i := 0) (ns := [a, b]) (ev_var (v := .ref ar) rfl) (e3 _ _ (x2 _ _ har)) (by decide : 0 < 2)) (ea_cons (ev_arg (i := 1) (ns := [a, b]) (ev_var (v := .ref ar) rfl) (e3 _ _ (x2 _ _ har)) (by decide : 1 < 2)) ea_nil))) rfl (pl.mono (x2.trans e3)) ok (k.mono (x2.trans e3))
  have x3 := x2.trans e3
  refine q_when (et_eqi (ev_var (v := .int (n : Nat)) rfl) (ev_c (v := .int (19 : Nat)))) (fun hb H4 e4 => ?_) fun hb4 H4 e4 => ?_
  · obtain rfl := eq_of_dec hb
    cases ho with
    | gateMinutesIfMaxWait a => exact s_run (ns := [a]) (ea_cons (ev_var (v := .ref p) rfl) (ea_cons (ev_arg (i := 0) (ns := [a]) (ev_var (v := .ref ar) rfl) (e4 _ _ (x3 _ _ har)) (by decide : 0 < 1)) ea_nil)) rfl (pl.mono (x3.trans e4)) ok (k.mono (x3.trans e4))
  have x4 := x3.trans e4
  have h6 : n = 20 := by
    have := ne_of_dec hb1; have := ne_of_dec hb2; have := ne_of_dec hb3; have := ne_of_dec hb4
    omega
  subst h6
  cases ho with
  | maxArrivals a => exact s_run (ns := [a]) (ea_cons (ev_var (v := .ref p) rfl) (ea_cons (ev_arg (i := 0) (ns := [a]) (ev_var (v := .ref ar) rfl) (x4 _ _ har) (by decide : 0 < 1)) ea_nil)) rfl (pl.mono x4) ok (k.mono x4)
theorem ok_add_up (T : Txt K mg CP CS) (D : Df K mg "add_up" ["planner", "number", "arguments"] s_add_up)
    (c_total_arrivals : C8.Cal P w K mg base 2 "total_arrivals" (spRun CP 2 fun ns => .totalArrivals (ns.getD 0 0) (ns.getD 1 0)) [])
    (c_get_state : C8.Cal P w K mg base 1 "get_state" (spRun CP 0 fun _ => .getState) []) :
    C8.Cal P w K mg base 3 "add_up" (spDo CP 21 23) [] := by
  refine cal_of D sc_add_up len_do fun f cdv A outer s H vs Q E hr h => ⟨_, (pss_cons (ps_if (pt_cmpR op_eq (pv 1) pe_int (nomark _)) (pss_one (ps_ret (C8.pe_c c_total_arrivals hr (by decide) (by rfl) (pa_cons (pv 0) (pa_cons (pe_ix ix_list (pv 2) pe_int (fun _ _ => rfl)) (pa_cons (pe_ix ix_list (pv 2) pe_int (fun _ _ => rfl)) pa_nil)))))) pss_nil)
      (pss_one (ps_ret (C8.pe_c c_get_state hr (by decide) (by rfl) (pa_cons (pv 0) pa_nil))))), ?_⟩
  obtain ⟨p, dx, l, ar, e, n, ns, o, rfl, hlo, hhi, ho, har, hz, pl, ok, k⟩ := h
  refine q_when (et_eqi (ev_var (v := .int (n : Nat)) rfl) (ev_c (v := .int (21 : Nat)))) (fun hb H1 e1 => ?_) fun hb1 H1 e1 => ?_
  · obtain rfl := eq_of_dec hb
    cases ho with
    | totalArrivals a b => exact s_run (ns := [a, b]) (ea_cons (ev_var (v := .ref p) rfl) (ea_cons (ev_arg (i := 0) (ns := [a, b]) (ev_var (v := .ref ar) rfl) (e1 _ _ har) (by decide : 0 < 2)) (ea_cons (ev_arg (i := 1) (ns := [a, b]) (ev_var (v := .ref ar) rfl) (e1 _ _ har) (by decide : 1 < 2)) ea_nil))) rfl (pl.mono e1) ok (k.mono e1)
  have h6 : n = 22 := by
    have := ne_of_dec hb1
    omega
  subst h6
  cases ho with
  | getState => exact s_run (ns := []) (ea_cons (ev_var (v := .ref p) rfl) ea_nil) rfl (pl.mono e1) ok (k.mono e1)
end
end GW
set_option Elab.async false
set_option linter.all false
set_option maxRecDepth 100000
set_option maxHeartbeats 4000000
namespace GW
open PySem PySem.Spec PyProof.Rows L2 Evl
open Kv435 (Entrance Planner Operation Response sumBetween State execute validSettings)
open GT
/-! ### what a call leaves within the ranges -/
theorem valid_iff {a b c : Nat} : validSettings a b c = true ↔ 1 ≤ a ∧ a ≤ 9 ∧ b ≤ 6 ∧ c ≤ 6 := by
  simp [validSettings, and_assoc]
theorem not_valid {a b c : Nat} (h : ¬ validSettings a b c = false) : 1 ≤ a ∧ a ≤ 9 ∧ b ≤ 6 ∧ c ≤ 6 := valid_iff.mp (by simpa using h)
theorem run_ok {e : Entrance} (ok : Ok e) (o : Operation) : Ok (Planner.run ⟨e⟩ o).1.entrance := by
  cases o with
  | create a b c =>
    show Ok (if _ then _ else _ : Planner × Response).1.entrance
    split
    · exact ok
    · rename_i h
      obtain ⟨h1, h2, h3, h4⟩ := not_valid h
      exact ⟨h1, h2, h3, h4, by show 0 ≤ 10; decide, fun a ha => by cases ha⟩
  | addMinute a =>
    show Ok (if _ then _ else _ : Planner × Response).1.entrance
    split
    · exact ok
    · split
      · exact ok
      · rename_i h1 h2
        have h2' : ¬ 10 ≤ e.arrivals.length := h2
        refine ⟨ok.g1, ok.g2, ok.mg, ok.mw, ?_, fun x hx => ?_⟩
        · show (e.arrivals ++ [a]).length ≤ 10
          rw [List.length_append, List.length_singleton]; omega
        · rcases List.mem_append.mp hx with hx | hx
          · exact ok.arr x hx
          · have := List.mem_singleton.mp hx
            omega
  | setArrivals m a =>
    show Ok (if _ then _ else _ : Planner × Response).1.entrance
    split
    · exact ok
    · split
      · exact ok
      · exact ok.withA (by omega)
  | removeLastMinute =>
    show Ok (if _ then _ else _ : Planner × Response).1.entrance
    split
    · exact ok
    · refine ⟨ok.g1, ok.g2, ok.mg, ok.mw, ?_, fun x hx => ok.arr x (List.dropLast_subset _ hx)⟩
      show e.arrivals.dropLast.length ≤ 10
      rw [List.length_dropLast]
      have := ok.len
      omega
  | setPerGate a =>
    show Ok (if _ then _ else _ : Planner × Response).1.entrance
    split
    · exact ok
    · rename_i h
      obtain ⟨h1, h2, h3, h4⟩ := not_valid h
      exact ⟨h1, h2, h3, h4, ok.len, ok.arr⟩
  | setMaxGates a =>
    show Ok (if _ then _ else _ : Planner × Response).1.entrance
    split
    · exact ok
    · rename_i h
      obtain ⟨h1, h2, h3, h4⟩ := not_valid h
      exact ⟨h1, h2, h3, h4, ok.len, ok.arr⟩
  | setMaxWait a =>
    show Ok (if _ then _ else _ : Planner × Response).1.entrance
    split
    · exact ok
    · rename_i h
      obtain ⟨h1, h2, h3, h4⟩ := not_valid h
      exact ⟨h1, h2, h3, h4, ok.len, ok.arr⟩
  | listArrivals => exact ok
  | bestSchedule =>
    show Ok (match e.bestSchedule with | none => (Planner.mk e, Response.error (-33)) | some gates => (Planner.mk e, Response.list gates)).1.entrance
    split <;> exact ok
  | minGateMinutes => exact ok
  | isPossible => exact ok
  | infeasibleInterval =>
    show Ok (match e.infeasibleInterval with | none => (Planner.mk e, Response.error (-33)) | some interval => (Planner.mk e, (⟨(interval.1 : Nat), [interval.2, sumBetween e.arrivals interval.1 interval.2]⟩ : Response))).1.entrance
    split <;> exact ok
  | isFeasible g =>
    show Ok (if _ then _ else _ : Planner × Response).1.entrance
    split <;> exact ok
  | admitted g =>
    show Ok (if _ then _ else _ : Planner × Response).1.entrance
    split <;> exact ok
  | queueLengths g =>
    show Ok (if _ then _ else _ : Planner × Response).1.entrance
    split <;> exact ok
  | longestWait g =>
    show Ok (if _ then _ else _ : Planner × Response).1.entrance
    split <;> exact ok
  | minMaxGates => exact ok
  | minMaxWait => exact ok
  | gateMinutesIfArrivals m a =>
    show Ok (if _ then _ else _ : Planner × Response).1.entrance
    split
    · exact ok
    · split <;> exact ok
  | gateMinutesIfMaxWait a =>
    show Ok (if _ then _ else _ : Planner × Response).1.entrance
    split <;> exact ok
  | maxArrivals m =>
    show Ok (if _ then _ else _ : Planner × Response).1.entrance
    split
    · exact ok
    · split <;> exact ok
  | totalArrivals a b =>
    show Ok (if _ then _ else _ : Planner × Response).1.entrance
    split <;> exact ok
  | getState => exact ok
theorem exec_some (q : Planner) (o : Operation) : execute (some q) o = (some (q.run o).1, (q.run o).2) := by
  cases o <;> rfl
theorem exec_none {o : Operation} (h : ∀ a b c, o ≠ .create a b c) : execute none o = (none, .error (-11)) := by
  cases o with
  | create a b c => exact absurd rfl (h a b c)
  | _ => rfl
theorem exec_bad {st : State} {a b c : Nat} (h : validSettings a b c = false) : execute st (.create a b c) = (st, .error (-22)) := by
  have hr : ∀ q : Planner, q.run (.create a b c) = (q, .error (-22)) := fun q => if_pos h
  cases st with
  | none =>
    show (if ((Planner.mk ⟨1, 0, 0, []⟩).run (.create a b c)).2.code < 0 then ((none : State), ((Planner.mk ⟨1, 0, 0, []⟩).run (.create a b c)).2) else (some ((Planner.mk ⟨1, 0, 0, []⟩).run (.create a b c)).1, ((Planner.mk ⟨1, 0, 0, []⟩).run (.create a b c)).2)) = _
    rw [hr]
    rfl
  | some q => rw [exec_some, hr]
theorem exec_good {st : State} {a b c : Nat} (h : validSettings a b c = true) : execute st (.create a b c) = (some ⟨⟨a, b, c, []⟩⟩, .number 0) := by
  have hr : ∀ q : Planner, q.run (.create a b c) = (⟨⟨a, b, c, []⟩⟩, .number 0) := fun q => if_neg (by rw [h]; decide)
  cases st with
  | none =>
    show (if ((Planner.mk ⟨1, 0, 0, []⟩).run (.create a b c)).2.code < 0 then ((none : State), ((Planner.mk ⟨1, 0, 0, []⟩).run (.create a b c)).2) else (some ((Planner.mk ⟨1, 0, 0, []⟩).run (.create a b c)).1, ((Planner.mk ⟨1, 0, 0, []⟩).run (.create a b c)).2)) = _
    rw [hr]
    rfl
  | some q => rw [exec_some, hr]
/-! ### how a session lies in the heap -/
def sF (v : V) : List (Str × V) := [("planner", v)]
theorem sF_pl (v : V) : (sF v).lookup ("planner" : Str) = some v := lk_here
theorem sF_cr (v : V) : (sF v).lookup ("create" : Str) = none := (lk_past (by decide +kernel)).trans rfl
theorem sF_put (u v : V) : putF "planner" v (sF u) = sF v := put_here
/-- the planner's value -/
def plV (p : Addr) : State → V
  | none => .non
  | some _ => .ref p
structure StAt (CP CS : Addr) (H : Hp) (sa dxs p dx l : Addr) (st : State) : Prop where
  ses : H sa = some (.ins CS dxs (sF (plV p st)))
  pl : ∀ q : Planner, st = some q → PlanAt CP H p dx l q.entrance ∧ Ok q.entrance
theorem StAt.mono {CP CS : Addr} {H H' : Hp} {sa dxs p dx l : Addr} {st : State} (a : StAt CP CS H sa dxs p dx l st) (x : Ex H H') : StAt CP CS H' sa dxs p dx l st := ⟨x _ _ a.ses, fun q hq => ⟨(a.pl q hq).1.mono x, (a.pl q hq).2⟩⟩
/-- the session stands as r tells, the answer is a new list, all else is as it was -/
def After (CP CS : Addr) (H : Hp) (Q : VK) (sa dxs p dx l : Addr) (r : State × Response) : Prop := ∀ (H' : Hp) (a p' dx' l' : Addr), H a = none → H' a = some (.lst (row r.2)) → StAt CP CS H' sa dxs p' dx' l' r.1 → (p' = p ∨ H p' = none) → (l' = l ∨ H l' = none) →
  (∀ b o, H b = some o → b ≠ sa → b ≠ p → b ≠ l → H' b = some o) → Q (.ref a) H'
theorem After.mono {CP CS : Addr} {H H' : Hp} {Q : VK} {sa dxs p dx l : Addr} {r : State × Response} (k : After CP CS H Q sa dxs p dx l r) (x : Ex H H') : After CP CS H' Q sa dxs p dx l r :=
  fun H2 a p' dx' l' ha h2 h3 h4 h5 h6 => k H2 a p' dx' l' (fresh_back x ha) h2 h3 (h4.imp id (fresh_back x)) (h5.imp id (fresh_back x)) fun b o hb c1 c2 c3 => h6 b o (x _ _ hb) c1 c2 c3
/-- nothing has changed -/
theorem After.same {CP CS : Addr} {H H2 : Hp} {Q : VK} {sa dxs p dx l : Addr} {st : State} {r : State × Response} (k : After CP CS H Q sa dxs p dx l r) (he : r.1 = st) (S : StAt CP CS H sa dxs p dx l st) {a : Addr} {xs : List V} (ha : H a = none) (x2 : Ex H H2) (h2 : H2 a = some (.lst xs)) (hr : xs = row r.2) : Q (.ref a) H2 := by
  subst hr
  subst he
  exact k H2 a p dx l ha h2 (S.mono x2) (Or.inl rfl) (Or.inl rfl) fun b o hb _ _ _ => x2 b o hb
/-- a call on the planner within the session -/
theorem After.back {CP CS : Addr} {H : Hp} {Q : VK} {sa dxs p dx l : Addr} {q : Planner} {o : Operation} (k : After CP CS H Q sa dxs p dx l (execute (some q) o)) (S : StAt CP CS H sa dxs p dx l (some q)) : Back CP H Q p dx l (Planner.run ⟨q.entrance⟩ o) := by
  obtain ⟨pl, ok⟩ := S.pl q rfl
  have n1 : sa ≠ p := ne_of S.ses pl.ob (by
    intro z
    injection z with _ _ z3
    have : (sF (plV p (some q))).length = (pF q.entrance l).length := by rw [z3]
    have h1 : (sF (plV p (some q))).length = 1 := rfl
    have h2 : (pF q.entrance l).length = 4 := rfl
    omega)
  have n2 : sa ≠ l := ne_of S.ses pl.li (by intro z; cases z)
  intro H' a ha h2 h3 h4
  rw [exec_some] at k
  refine k H' a p dx l ha h2 ⟨h4 _ _ S.ses n1 n2, fun q' hq' => ?_⟩ (Or.inl rfl) (Or.inl rfl) fun b o' hb _ c2 c3 => h4 b o' hb c2 c3
  have hq2 : (q.run o).1 = q' := Option.some.inj hq'
  subst hq2
  exact ⟨h3, run_ok ok o⟩
section
variable {P : Program} {w : World} {K : PySem.W.Frag} {mg : Str → Option Value} {base : Heap} {CP CS : Addr}
/-- Session() -/
def spSes (CS : Addr) : Sp := fun vs H Q _ => ∃ (s dx : Addr), vs = [.ref s] ∧ H s = some (.ins CS dx []) ∧ ∀ H' : Hp, H' s = some (.ins CS dx (sF .non)) → (∀ b o, H b = some o → b ≠ s → H' b = some o) → Q .non H'
theorem ok_session (T : Txt K mg CP CS) (D : Di K mg "Session" "Session.__init__" CS ["self"] s_Sessiond_initd) : C8.Mak P w K mg base 1 "Session" CS (spSes CS) [] := by
  refine mak_of D sc_Sessiond_initd (fun vs H Q E h => by obtain ⟨p, dx, rfl, _⟩ := h; rfl) fun f cdv A outer s H vs Q E hr h => ⟨_, (pss_one (ps_fld (pv 0) pe_non rfl)), ?_⟩
  obtain ⟨p, dx, rfl, hp, k⟩ := h
  refine s_fld (ev_c (v := .non)) (ev_var (v := .ref p) rfl) hp T.clS T.aPl (by show 0 < 1000; decide) fun H1 e1 => ?_
  refine k _ upd_same fun b o hb hbp => ?_
  show upd H1 p _ b = _
  rw [upd_ne hbp]
  exact e1 _ _ hb
/-- session.create(..) -/
def spCreate (CP CS : Addr) : Sp := fun vs H Q _ => ∃ (sa dxs p dx l : Addr) (st : State) (a b c : Nat), vs = [.ref sa, .int (a : Nat), .int (b : Nat), .int (c : Nat)] ∧ StAt CP CS H sa dxs p dx l st ∧ After CP CS H Q sa dxs p dx l (execute st (.create a b c))
theorem q_fldP {σ : L2.St} {H : Hp} {te tv : TE} {e : Entrance} {D : Ends} {tz : TS} {q dq C : Addr} {fs : List (Str × V)} {f : Str} (hv : EvP CP tv σ H e) (ha : Ev te σ H (.ref q)) (ho : H q = some (.ins C dq fs)) (hc : Cls K C) (hn : NoAttr K C f) (hl : fs.length < 1000)
    (k : ∀ p dx l H1, H p = none → H l = none → Ex H H1 → PlanAt CP H1 p dx l e → tz D σ (upd H1 q (.ins C dq (putF f (.ref p) fs)))) : tSeq (sFld K te tv f) tz D σ H :=
  hv H (Ex.refl H) _ fun p dx l H1 hp hl1 e1 pl => ha H1 e1 _ fun H2 e2 => ⟨q, C, dq, fs, rfl, e2 _ _ (e1 _ _ ho), hc, hn, hl, k p dx l H2 hp hl1 (e1.trans e2) (pl.mono e2)⟩
theorem ok_create (T : Txt K mg CP CS) (D : Dm K CS "create" "Session.create" ["self", "per_gate", "max_gates", "max_wait"] s_Session_create)
    (c_per_gate_allowed : C8.Cal P w K mg base 1 "per_gate_allowed" (spB1 gPg) []) (c_max_gates_allowed : C8.Cal P w K mg base 1 "max_gates_allowed" (spB1 gMg) [])
    (c_max_wait_allowed : C8.Cal P w K mg base 1 "max_wait_allowed" (spB1 gMg) []) (c_out_of_range : C8.Cal P w K mg base 1 "out_of_range" (spL0 (-22)) [])
    (c_Plannerd_initd : C8.Mak P w K mg base 1 "Planner" CP (spInit CP) []) : C8.Met P w K mg base 3 CS "create" (spCreate CP CS) [] := by
  refine met_of T.clS D sc_Session_create (fun vs H Q E h => by obtain ⟨sa, dxs, p, dx, l, st, a, b, c, rfl, _⟩ := h; rfl) fun f cdv A outer s H vs Q E hr h => ⟨_, (pss_cons (ps_set (i := 4) sc_Session_create.nd rfl (Or.inl rfl) (pe_and (C8.pe_c c_per_gate_allowed hr (by decide) (by rfl) (pa_cons (pv 1) pa_nil)) (pe_and (C8.pe_c c_max_gates_allowed hr (by decide) (by rfl) (pa_cons (pv 2) pa_nil)) (pe_one (C8.pe_c c_max_wait_allowed hr (by decide) (by rfl) (pa_cons (pv 3) pa_nil))))))
      (pss_cons (ps_if (pt_not (pt_val (pv 4))) (pss_one (ps_ret (pe_c0 c_out_of_range hr (by decide) (by rfl)))) pss_nil)
      (pss_cons (ps_fld (pv 0) (C8.pe_mk c_Plannerd_initd hr (by decide) (by rfl) (pa_cons (pv 1) (pa_cons (pv 2) (pa_cons (pv 3) pa_nil)))) rfl)
      (pss_one (ps_ret (pe_lst (pa_cons pe_int pa_nil))))))), ?_⟩
  obtain ⟨sa, dxs, p, dx, l, st, a, b, c, rfl, S, k⟩ := h
  have hv : (gPg (a : Nat) && (gMg (b : Nat) && gMg (c : Nat))) = validSettings a b c := by
    simp only [gPg, gMg, validSettings]
    rw [← Bool.and_assoc]
    congr 1
    · congr 1
      · congr 1 <;> (apply decide_eq_decide.mpr; omega)
      · apply decide_eq_decide.mpr; omega
    · apply decide_eq_decide.mpr; omega
  refine q_asg (v := .bl (validSettings a b c)) (ev_is (ev_andV (ev_B1 (ev_var (v := .int (a : Nat)) rfl)) fun _ => ev_andV (ev_B1 (ev_var (v := .int (b : Nat)) rfl)) fun _ => ev_B1 (ev_var (v := .int (c : Nat)) rfl)) (congrArg V.bl hv)) fun H1 e1 => ?_
  refine q_when (et_not (et_B (ev_var (v := .bl (validSettings a b c)) rfl))) (fun hb H2 e2 => ?_) fun hb H2 e2 => ?_
  · have hb' : validSettings a b c = false := by simpa using hb
    have hk := exec_bad (st := st) hb'
    exact s_retL el_L0 fun r H3 ha x3 h3 => After.same (k.mono (e1.trans e2)) (by rw [hk]) (S.mono (e1.trans e2)) ha x3 h3 (by rw [hk]; rfl)
  · have hb' : validSettings a b c = true := by simpa using hb
    have hk := exec_good (st := st) hb'
    obtain ⟨v1, v2, v3, v4⟩ := valid_iff.mp hb'
    have S2 := S.mono (e1.trans e2)
    have k2 := k.mono (e1.trans e2)
    refine q_fldP (ep_make (ea_cons (ev_var (v := .int (a : Nat)) rfl) (ea_cons (ev_var (v := .int (b : Nat)) rfl) (ea_cons (ev_var (v := .int (c : Nat)) rfl) ea_nil)))) (ev_var (v := .ref sa) rfl) S2.ses T.clS T.aPl (by show 1 < 1000; decide) fun p2 dx2 l2 H3 hp2 hl2 e3 pl2 => ?_
    have np : p2 ≠ sa := fun z => by rw [z, S2.ses] at hp2; cases hp2
    have nl : l2 ≠ sa := fun z => by rw [z, S2.ses] at hl2; cases hl2
    refine s_retL (el_lst (ea_cons (ev_c (v := .int (0 : Nat))) ea_nil) (by show 1 ≤ 100000; decide)) fun r H4 ha x4 h4 => k2 H4 r p2 dx2 l2 ?_ ?_ ?_ (Or.inr hp2) (Or.inr hl2) fun b' o hb' c1 _ _ => ?_
    · have nr : r ≠ sa := fun z => by rw [z, upd_same] at ha; cases ha
      rw [upd_ne nr] at ha
      exact fresh_back e3 ha
    · rw [h4, hk]; rfl
    · rw [hk]
      refine ⟨x4 _ _ ?_, fun q hq => ?_⟩
      · rw [upd_same]
        rfl
      · have := Option.some.inj hq
        subst this
        refine ⟨⟨x4 _ _ ?_, x4 _ _ ?_⟩, ⟨v1, v2, v3, v4, by show 0 ≤ 10; decide, fun z hz => by cases hz⟩⟩
        · rw [upd_ne np]; exact pl2.ob
        · rw [upd_ne nl]; exact pl2.li
    · refine x4 _ _ ?_
      rw [upd_ne c1]
      exact e3 _ _ hb'
theorem s_callG {σ : L2.St} {H : Hp} {E : XK} {D : Ends} {sp : Sp} {ta : TA} {vs : List V} (h : EvA ta σ H vs) (k : ∀ H1, Ex H H1 → sp (vs ++ []) H1 D.rt E) : tRet (tCall sp [] E ta) D σ H := h H (Ex.refl H) _ k
/-- a session, a number, its numbers in; the call is done -/
def spPerf (CP CS : Addr) : Sp := fun vs H Q _ => ∃ (sa dxs p dx l ar : Addr) (st : State) (n : Nat) (ns : List Nat) (o : Operation), vs = [.ref sa, .int (n : Nat), .ref ar] ∧ OpAt n ns o ∧ H ar = some (.lst (nv ns)) ∧ ns.length ≤ 40000 ∧ StAt CP CS H sa dxs p dx l st ∧ After CP CS H Q sa dxs p dx l (execute st o)
theorem ok_perform (T : Txt K mg CP CS) (D : Df K mg "perform" ["session", "number", "arguments"] s_perform)
    (c_Session_create : C8.Met P w K mg base 3 CS "create" (spCreate CP CS) []) (c_no_planner : C8.Cal P w K mg base 1 "no_planner" (spL0 (-11)) [])
    (c_change : C8.Cal P w K mg base 3 "change" (spDo CP 1 7) []) (c_query : C8.Cal P w K mg base 6 "query" (spAsk CP 7 12) []) (c_evaluate : C8.Cal P w K mg base 6 "evaluate" (spDo CP 12 16) [])
    (c_ask_what_if : C8.Cal P w K mg base 7 "ask_what_if" (spDo CP 16 21) []) (c_add_up : C8.Cal P w K mg base 3 "add_up" (spDo CP 21 23) []) :
    C8.Cal P w K mg base 8 "perform" (spPerf CP CS) [] := by
  refine cal_of D sc_perform (fun vs H Q E h => by obtain ⟨sa, dxs, p, dx, l, ar, st, n, ns, o, rfl, _⟩ := h; rfl) fun f cdv A outer s H vs Q E hr h => ⟨_, (pss_cons (ps_if (pt_cmpR op_eq (pv 1) pe_int (nomark _)) (pss_one (ps_ret (C8.pe_mt c_Session_create hr (by decide) (pv 0) (pa_cons (pe_ix ix_list (pv 2) pe_int (fun _ _ => rfl)) (pa_cons (pe_ix ix_list (pv 2) pe_int (fun _ _ => rfl)) (pa_cons (pe_ix ix_list (pv 2) pe_int (fun _ _ => rfl)) pa_nil)))))) pss_nil)
      (pss_cons (ps_if (pt_cmpR op_isN (pe_fld (pv 0) rfl) pe_non (nomark _)) (pss_one (ps_ret (pe_c0 c_no_planner hr (by decide) (by rfl)))) pss_nil)
      (pss_cons (ps_if (pt_cmpR op_lt (pv 1) (C8.pe_gc (by rfl) T.g_FIRST_QUERY) (nomark _)) (pss_one (ps_ret (C8.pe_c c_change hr (by decide) (by rfl) (pa_cons (pe_fld (pv 0) rfl) (pa_cons (pv 1) (pa_cons (pv 2) pa_nil)))))) pss_nil)
      (pss_cons (ps_if (pt_cmpR op_lt (pv 1) (C8.pe_gc (by rfl) T.g_FIRST_EVALUATION) (nomark _)) (pss_one (ps_ret (C8.pe_c c_query hr (by decide) (by rfl) (pa_cons (pe_fld (pv 0) rfl) (pa_cons (pv 1) pa_nil))))) pss_nil)
      (pss_cons (ps_if (pt_cmpR op_lt (pv 1) (C8.pe_gc (by rfl) T.g_FIRST_WHAT_IF) (nomark _)) (pss_one (ps_ret (C8.pe_c c_evaluate hr (by decide) (by rfl) (pa_cons (pe_fld (pv 0) rfl) (pa_cons (pv 1) (pa_cons (pv 2) pa_nil)))))) pss_nil)
      (pss_cons (ps_if (pt_cmpR op_lt (pv 1) (C8.pe_gc (by rfl) T.g_FIRST_TOTAL) (nomark _)) (pss_one (ps_ret (C8.pe_c c_ask_what_if hr (by decide) (by rfl) (pa_cons (pe_fld (pv 0) rfl) (pa_cons (pv 1) (pa_cons (pv 2) pa_nil)))))) pss_nil)
      (pss_one (ps_ret (C8.pe_c c_add_up hr (by decide) (by rfl) (pa_cons (pe_fld (pv 0) rfl) (pa_cons (pv 1) (pa_cons (pv 2) pa_nil)))))))))))), ?_⟩
  obtain ⟨sa, dxs, p, dx, l, ar, st, n, ns, o, rfl, ho, har, hz, S, k⟩ := h
  have hn23 := ho.lt
  refine q_when (et_eqi (ev_var (v := .int (n : Nat)) rfl) (ev_c (v := .int (0 : Nat)))) (fun hb H1 e1 => ?_) fun hb0 H1 e1 => ?_
  · obtain rfl := eq_of_dec hb
    cases ho with
    | create a b c =>
      have ix : ∀ i : Nat, i < 3 → Ev (tOp (rIxL K) (tVar 2) (tC (.int (i : Nat)))) (start ["session", "number", "arguments"] [.ref sa, .int ((0 : Nat) : Int), .ref ar]) H1 (.int ((([a, b, c] : List Nat).getD i 0 : Nat) : Int)) := fun i hi => ev_arg (ns := [a, b, c]) (ev_var (v := .ref ar) rfl) (e1 _ _ har) hi
      refine ⟨_, rfl, sa, dxs, _, rfl, (S.mono e1).ses, sF_cr _, ?_⟩
      refine ea_cons (ix 0 (by decide)) (ea_cons (ix 1 (by decide)) (ea_cons (ix 2 (by decide)) ea_nil)) H1 (Ex.refl H1) _ fun H2 e2 => ?_
      exact ⟨sa, dxs, p, dx, l, st, a, b, c, rfl, S.mono (e1.trans e2), k.mono (e1.trans e2)⟩
  have hn0 : n ≠ 0 := ne_of_dec hb0
  have S1 := S.mono e1
  have k1 := k.mono e1
  have fe : ∀ (H' : Hp) (st' : State), StAt CP CS H' sa dxs p dx l st' → Ev (tFld K (tVar 0) "planner") (start ["session", "number", "arguments"] [.ref sa, .int (n : Nat), .ref ar]) H' (plV p st') := fun H' st' S' => ev_fld (ev_var (v := .ref sa) rfl) S'.ses T.clS T.aPl (sF_pl _)
  have en : ∀ H' : Hp, Ev (tVar 1) (start ["session", "number", "arguments"] [.ref sa, .int (n : Nat), .ref ar]) H' (.int (n : Nat)) := fun H' => ev_var rfl
  have er : ∀ H' : Hp, Ev (tVar 2) (start ["session", "number", "arguments"] [.ref sa, .int (n : Nat), .ref ar]) H' (.ref ar) := fun H' => ev_var rfl
  cases st with
  | none =>
    have hk : execute none o = (none, .error (-11)) := exec_none fun a b c z => by subst z; cases ho; exact hn0 rfl
    refine q_when (b := true) (et_isN (fe H1 none S1) (decide_eq_true rfl)) (fun _ H2 e2 => ?_) fun z => by cases z
    exact s_retL el_L0 fun r H3 ha x3 h3 => After.same (k1.mono e2) (by rw [hk]) (S1.mono e2) ha x3 h3 (by rw [hk]; rfl)
  | some q =>
    refine q_when (b := false) (et_isN (fe H1 (some q) S1) (decide_eq_false (by intro z; cases z))) (fun z => by cases z) fun _ H2 e2 => ?_
    have x2 := e1.trans e2
    refine q_when (et_lt (ev_var (v := .int (n : Nat)) rfl) (ev_c (v := .int (7 : Nat)))) (fun hb H3 e3 => ?_) fun hb7 H3 e3 => ?_
    · have hb' : n < 7 := Int.ofNat_lt.mp (of_decide_eq_true hb)
      have x3 := x2.trans e3
      refine s_callG (ea_cons (fe H3 (some q) (S.mono x3)) (ea_cons (en H3) (ea_cons (er H3) ea_nil))) fun H4 e4 => ?_
      have S4 := S.mono (x3.trans e4)
      obtain ⟨pl, ok⟩ := S4.pl q rfl
      exact ⟨p, dx, l, ar, q.entrance, n, ns, o, rfl, by omega, hb', ho, e4 _ _ (x3 _ _ har), hz, pl, ok, After.back (k.mono (x3.trans e4)) S4⟩
    have x3 := x2.trans e3
    have h7 : ¬ n < 7 := fun z => of_decide_eq_false hb7 (Int.ofNat_lt.mpr z)
    refine q_when (et_lt (ev_var (v := .int (n : Nat)) rfl) (ev_c (v := .int (12 : Nat)))) (fun hb H4 e4 => ?_) fun hb12 H4 e4 => ?_
    · have hb' : n < 12 := Int.ofNat_lt.mp (of_decide_eq_true hb)
      have x4 := x3.trans e4
      refine s_callG (ea_cons (fe H4 (some q) (S.mono x4)) (ea_cons (en H4) ea_nil)) fun H5 e5 => ?_
      have S5 := S.mono (x4.trans e5)
      obtain ⟨pl, ok⟩ := S5.pl q rfl
      exact ⟨p, dx, l, q.entrance, n, ns, o, rfl, by omega, hb', ho, pl, ok, After.back (k.mono (x4.trans e5)) S5⟩
    have x4 := x3.trans e4
    have h12 : ¬ n < 12 := fun z => of_decide_eq_false hb12 (Int.ofNat_lt.mpr z)
    refine q_when (et_lt (ev_var (v := .int (n : Nat)) rfl) (ev_c (v := .int (16 : Nat)))) (fun hb H5 e5 => ?_) fun hb16 H5 e5 => ?_
    · have hb' : n < 16 := Int.ofNat_lt.mp (of_decide_eq_true hb)
      have x5 := x4.trans e5
      refine s_callG (ea_cons (fe H5 (some q) (S.mono x5)) (ea_cons (en H5) (ea_cons (er H5) ea_nil))) fun H6 e6 => ?_
      have S6 := S.mono (x5.trans e6)
      obtain ⟨pl, ok⟩ := S6.pl q rfl
      exact ⟨p, dx, l, ar, q.entrance, n, ns, o, rfl, by omega, hb', ho, e6 _ _ (x5 _ _ har), hz, pl, ok, After.back (k.mono (x5.trans e6)) S6⟩
    have x5 := x4.trans e5
    have h16 : ¬ n < 16 := fun z => of_decide_eq_false hb16 (Int.ofNat_lt.mpr z)
    refine q_when (et_lt (ev_var (v := .int (n : Nat)) rfl) (ev_c (v := .int (21 : Nat)))) (fun hb H6 e6 => ?_) fun hb21 H6 e6 => ?_
    · have hb' : n < 21 := Int.ofNat_lt.mp (of_decide_eq_true hb)
      have x6 := x5.trans e6
      refine s_callG (ea_cons (fe H6 (some q) (S.mono x6)) (ea_cons (en H6) (ea_cons (er H6) ea_nil))) fun H7 e7 => ?_
      have S7 := S.mono (x6.trans e7)
      obtain ⟨pl, ok⟩ := S7.pl q rfl
      exact ⟨p, dx, l, ar, q.entrance, n, ns, o, rfl, by omega, hb', ho, e7 _ _ (x6 _ _ har), hz, pl, ok, After.back (k.mono (x6.trans e7)) S7⟩
    have x6 := x5.trans e6
    have h21 : ¬ n < 21 := fun z => of_decide_eq_false hb21 (Int.ofNat_lt.mpr z)
    refine s_callG (ea_cons (fe H6 (some q) (S.mono x6)) (ea_cons (en H6) (ea_cons (er H6) ea_nil))) fun H7 e7 => ?_
    have S7 := S.mono (x6.trans e7)
    obtain ⟨pl, ok⟩ := S7.pl q rfl
    exact ⟨p, dx, l, ar, q.entrance, n, ns, o, rfl, by omega, hn23, ho, e7 _ _ (x6 _ _ har), hz, pl, ok, After.back (k.mono (x6.trans e7)) S7⟩
end
end GW
set_option Elab.async false
set_option linter.all false
set_option maxRecDepth 100000
set_option maxHeartbeats 4000000
namespace GW
open PySem PySem.Spec PyProof.Rows L2 Evl
open Kv435 (Entrance Planner Operation Response sumBetween State execute validSettings)
open GT
/-! ### the calls taken apart, one at a time -/
def isRow (n : Nat) : Bool := decide (12 ≤ n) && decide (n < 16)
def cnt (n : Nat) : Nat := ([3, 1, 2, 0, 1, 1, 1, 0, 0, 0, 0, 0, 0, 0, 0, 0, 0, 0, 2, 1, 1, 2, 0] : List Nat).getD n 0
theorem ite_or {c : Prop} [Decidable c] {α : Type} {x s : α} {e : Option α} (h : (if c then some x else e) = some s) : c ∨ e = some s := by
  by_cases q : c
  · exact Or.inl q
  · rw [if_neg q] at h
    exact Or.inr h
theorem call_eq (p : Int) (r : List Int) : PyFlat.call PyKv435.shape (p :: r) = match PyKv435.shape p with
    | none => none
    | some (n, k) => if r.length < n then none else match PyFlat.rows k (r.drop n) with
      | none => none
      | some (xs, t) => some ((p :: r.take n) :: xs, t) := rfl
theorem shape_num {p : Int} {s : Nat × Nat} (h : PyKv435.shape p = some s) : ∃ n : Nat, n < 23 ∧ p = (n : Nat) := by
  unfold PyKv435.shape at h
  iterate 23 (rcases ite_or h with e | h; · exact ⟨p.toNat, by omega, by omega⟩)
  cases h
theorem call_0 {p : Int} {r t : List Int} {c : List (List Int)} (hs : PyKv435.shape p = some (0, 0)) (h : PyFlat.call PyKv435.shape (p :: r) = some (c, t)) : c = [[p]] ∧ r = t := by
  rw [call_eq, hs] at h
  simp [PyFlat.rows] at h
  exact ⟨h.1.symm, h.2⟩
theorem call_1 {p : Int} {r t : List Int} {c : List (List Int)} (hs : PyKv435.shape p = some (1, 0)) (h : PyFlat.call PyKv435.shape (p :: r) = some (c, t)) : ∃ a, c = [[p, a]] ∧ r = a :: t := by
  rw [call_eq, hs] at h
  match r, h with
  | [], h => simp [PyFlat.rows] at h
  | a :: r, h =>
    simp [PyFlat.rows] at h
    exact ⟨a, h.1.symm, by rw [h.2]⟩
theorem call_2 {p : Int} {r t : List Int} {c : List (List Int)} (hs : PyKv435.shape p = some (2, 0)) (h : PyFlat.call PyKv435.shape (p :: r) = some (c, t)) : ∃ a b, c = [[p, a, b]] ∧ r = a :: b :: t := by
  rw [call_eq, hs] at h
  match r, h with
  | [], h => simp [PyFlat.rows] at h
  | [a], h => simp [PyFlat.rows] at h
  | a :: b :: r, h =>
    simp [PyFlat.rows] at h
    exact ⟨a, b, h.1.symm, by rw [h.2]⟩
theorem call_3 {p : Int} {r t : List Int} {c : List (List Int)} (hs : PyKv435.shape p = some (3, 0)) (h : PyFlat.call PyKv435.shape (p :: r) = some (c, t)) : ∃ a b d, c = [[p, a, b, d]] ∧ r = a :: b :: d :: t := by
  rw [call_eq, hs] at h
  match r, h with
  | [], h => simp [PyFlat.rows] at h
  | [a], h => simp [PyFlat.rows] at h
  | [a, b], h => simp [PyFlat.rows] at h
  | a :: b :: d :: r, h =>
    simp [PyFlat.rows] at h
    exact ⟨a, b, d, h.1.symm, by rw [h.2]⟩
theorem call_row {p : Int} {r t : List Int} {c : List (List Int)} (hs : PyKv435.shape p = some (0, 1)) (h : PyFlat.call PyKv435.shape (p :: r) = some (c, t)) : ∃ g, c = [[p], g] ∧ r = (g.length : Int) :: (g ++ t) := by
  rw [call_eq, hs] at h
  match r, h with
  | [], h => simp [PyFlat.rows, PyFlat.row] at h
  | k :: r, h =>
    by_cases q : 0 ≤ k ∧ k.toNat ≤ r.length
    · simp [PyFlat.rows, PyFlat.row, q] at h
      obtain ⟨rfl, rfl⟩ := h
      refine ⟨r.take k.toNat, rfl, ?_⟩
      rw [List.take_append_drop, List.length_take, Nat.min_eq_left q.2]
      congr 1
      omega
    · have hr : PyFlat.row (k :: r) = none := if_neg q
      simp [PyFlat.rows, hr] at h
theorem nat_of {a : Int} {b : Nat} (h : Kv435Neutral.isNatural a b = true) : ∃ n : Nat, a = (n : Nat) ∧ a.toNat = n := by
  unfold Kv435Neutral.isNatural at h
  rw [Bool.and_eq_true] at h
  have : 0 ≤ a := of_decide_eq_true h.1
  exact ⟨a.toNat, by omega, rfl⟩
theorem nats_of {b : Nat} : ∀ g : List Int, (g.all fun z => Kv435Neutral.isNatural z b) = true → ∃ ns : List Nat, g = ns.map Int.ofNat ∧ Kv435Neutral.naturals g = ns
  | [], _ => ⟨[], rfl, rfl⟩
  | a :: g, h => by
    rw [List.all_cons, Bool.and_eq_true] at h
    obtain ⟨n, e, e2⟩ := nat_of h.1
    obtain ⟨ns, e3, e4⟩ := nats_of g h.2
    refine ⟨n :: ns, ?_, ?_⟩
    · rw [List.map_cons, ← e3, e]; rfl
    · show a.toNat :: Kv435Neutral.naturals g = _
      rw [e2, e4]
theorem whole_id (c : List (List Int)) : PyKv435.whole c = c := by
  unfold PyKv435.whole
  split <;> rfl
/-- what one call is -/
structure Turn (p : Int) (r t : List Int) (c : List (List Int)) (n : Nat) (ns : List Nat) (o : Operation) : Prop where
  num : p = (n : Nat)
  op : OpAt n ns o
  is : Kv435Neutral.operationOf c = some o
  flat : isRow n = false → r = ns.map Int.ofNat ++ t ∧ ns.length = cnt n
  row : isRow n = true → r = (ns.length : Int) :: (ns.map Int.ofNat ++ t)
theorem turn_of {p : Int} {r t : List Int} {c : List (List Int)} (h : PyFlat.call PyKv435.shape (p :: r) = some (c, t)) (ha : Kv435Neutral.asked1 c = true) : ∃ n ns o, Turn p r t c n ns o := by
  cases hs : PyKv435.shape p with
  | none =>
    rw [call_eq, hs] at h
    cases h
  | some s =>
    obtain ⟨n, hn, rfl⟩ := shape_num hs
    have zero : ∀ (m : Nat) (o : Operation), n = m → PyKv435.shape (m : Nat) = some (0, 0) → OpAt m [] o → Kv435Neutral.operationOf [[((m : Nat) : Int)]] = some o → isRow m = false → cnt m = 0 → ∃ n' ns o, Turn ((n : Nat) : Int) r t c n' ns o := by
      rintro m o rfl h1 h2 h3 h4 h5
      obtain ⟨rfl, rfl⟩ := call_0 h1 h
      exact ⟨n, [], o, rfl, h2, h3, fun _ => ⟨rfl, h5.symm⟩, fun q => by rw [h4] at q; cases q⟩
    have one : ∀ (m : Nat) (o : Nat → Operation), n = m → PyKv435.shape (m : Nat) = some (1, 0) → (∀ a, OpAt m [a] (o a)) → (∀ a, Kv435Neutral.operationOf [[((m : Nat) : Int), a]] = some (o a.toNat)) → (∀ a, Kv435Neutral.asked1 [[((m : Nat) : Int), a]] = Kv435Neutral.isNatural a 32) → isRow m = false → cnt m = 1 → ∃ n' ns o, Turn ((n : Nat) : Int) r t c n' ns o := by
      rintro m o rfl h1 h2 h3 h4 h5 h6
      obtain ⟨a, rfl, rfl⟩ := call_1 h1 h
      rw [h4] at ha
      obtain ⟨x, e1, e2⟩ := nat_of ha
      refine ⟨n, [x], o x, rfl, h2 x, by rw [h3, e2], fun _ => ⟨by rw [e1]; rfl, h6.symm⟩, fun q => by rw [h5] at q; cases q⟩
    have two : ∀ (m : Nat) (o : Nat → Nat → Operation), n = m → PyKv435.shape (m : Nat) = some (2, 0) → (∀ a b, OpAt m [a, b] (o a b)) → (∀ a b, Kv435Neutral.operationOf [[((m : Nat) : Int), a, b]] = some (o a.toNat b.toNat)) → (∀ a b, Kv435Neutral.asked1 [[((m : Nat) : Int), a, b]] = (Kv435Neutral.isNatural a 32 && Kv435Neutral.isNatural b 32)) → isRow m = false → cnt m = 2 → ∃ n' ns o, Turn ((n : Nat) : Int) r t c n' ns o := by
      rintro m o rfl h1 h2 h3 h4 h5 h6
      obtain ⟨a, b, rfl, rfl⟩ := call_2 h1 h
      rw [h4, Bool.and_eq_true] at ha
      obtain ⟨x, e1, e2⟩ := nat_of ha.1
      obtain ⟨y, e3, e4⟩ := nat_of ha.2
      refine ⟨n, [x, y], o x y, rfl, h2 x y, by rw [h3, e2, e4], fun _ => ⟨by rw [e1, e3]; rfl, h6.symm⟩, fun q => by rw [h5] at q; cases q⟩
    have row : ∀ (m : Nat) (o : List Nat → Operation), n = m → PyKv435.shape (m : Nat) = some (0, 1) → (∀ g, OpAt m g (o g)) → (∀ g, Kv435Neutral.operationOf [[((m : Nat) : Int)], g] = some (o (Kv435Neutral.naturals g))) → (∀ g, Kv435Neutral.asked1 [[((m : Nat) : Int)], g] = g.all fun z => Kv435Neutral.isNatural z 16) → isRow m = true → ∃ n' ns o, Turn ((n : Nat) : Int) r t c n' ns o := by
      rintro m o rfl h1 h2 h3 h4 h5
      obtain ⟨g, rfl, rfl⟩ := call_row h1 h
      rw [h4] at ha
      obtain ⟨ns, e1, e2⟩ := nats_of g ha
      refine ⟨n, ns, o ns, rfl, h2 ns, by rw [h3, e2], fun q => (by rw [h5] at q; cases q), fun _ => ?_⟩
      rw [e1, List.length_map]
    have hc : n = 0 ∨ n = 1 ∨ n = 2 ∨ n = 3 ∨ n = 4 ∨ n = 5 ∨ n = 6 ∨ n = 7 ∨ n = 8 ∨ n = 9 ∨ n = 10 ∨ n = 11 ∨ n = 12 ∨ n = 13 ∨ n = 14 ∨ n = 15 ∨ n = 16 ∨ n = 17 ∨ n = 18 ∨ n = 19 ∨ n = 20 ∨ n = 21 ∨ n = 22 := by omega
    rcases hc with e | e | e | e | e | e | e | e | e | e | e | e | e | e | e | e | e | e | e | e | e | e | e
    · subst e
      obtain ⟨a, b, d, rfl, rfl⟩ := call_3 (p := ((0 : Nat) : Int)) rfl h
      have ha' : (Kv435Neutral.isNatural a 32 && Kv435Neutral.isNatural b 32 && Kv435Neutral.isNatural d 32) = true := ha
      rw [Bool.and_eq_true, Bool.and_eq_true] at ha'
      obtain ⟨x, e1, e2⟩ := nat_of ha'.1.1
      obtain ⟨y, e3, e4⟩ := nat_of ha'.1.2
      obtain ⟨z, e5, e6⟩ := nat_of ha'.2
      refine ⟨0, [x, y, z], .create x y z, rfl, .create x y z, ?_, fun _ => ⟨by rw [e1, e3, e5]; rfl, rfl⟩, fun q => by cases q⟩
      show some (Operation.create a.toNat b.toNat d.toNat) = _
      rw [e2, e4, e6]
    · exact one 1 .addMinute e rfl .addMinute (fun _ => rfl) (fun _ => rfl) rfl rfl
    · exact two 2 .setArrivals e rfl .setArrivals (fun _ _ => rfl) (fun _ _ => rfl) rfl rfl
    · exact zero 3 _ e rfl .removeLastMinute rfl rfl rfl
    · exact one 4 .setPerGate e rfl .setPerGate (fun _ => rfl) (fun _ => rfl) rfl rfl
    · exact one 5 .setMaxGates e rfl .setMaxGates (fun _ => rfl) (fun _ => rfl) rfl rfl
    · exact one 6 .setMaxWait e rfl .setMaxWait (fun _ => rfl) (fun _ => rfl) rfl rfl
    · exact zero 7 _ e rfl .listArrivals rfl rfl rfl
    · exact zero 8 _ e rfl .bestSchedule rfl rfl rfl
    · exact zero 9 _ e rfl .minGateMinutes rfl rfl rfl
    · exact zero 10 _ e rfl .isPossible rfl rfl rfl
    · exact zero 11 _ e rfl .infeasibleInterval rfl rfl rfl
    · exact row 12 .isFeasible e rfl .isFeasible (fun _ => rfl) (fun _ => rfl) rfl
    · exact row 13 .admitted e rfl .admitted (fun _ => rfl) (fun _ => rfl) rfl
    · exact row 14 .queueLengths e rfl .queueLengths (fun _ => rfl) (fun _ => rfl) rfl
    · exact row 15 .longestWait e rfl .longestWait (fun _ => rfl) (fun _ => rfl) rfl
    · exact zero 16 _ e rfl .minMaxGates rfl rfl rfl
    · exact zero 17 _ e rfl .minMaxWait rfl rfl rfl
    · exact two 18 .gateMinutesIfArrivals e rfl .gateMinutesIfArrivals (fun _ _ => rfl) (fun _ _ => rfl) rfl rfl
    · exact one 19 .gateMinutesIfMaxWait e rfl .gateMinutesIfMaxWait (fun _ => rfl) (fun _ => rfl) rfl rfl
    · exact one 20 .maxArrivals e rfl .maxArrivals (fun _ => rfl) (fun _ => rfl) rfl rfl
    · exact two 21 .totalArrivals e rfl .totalArrivals (fun _ _ => rfl) (fun _ _ => rfl) rfl rfl
    · exact zero 22 _ e rfl .getState rfl rfl rfl
/-- the calls of a list that isn't at its end -/
theorem calls_cons {f : Nat} {p : Int} {r : List Int} {cs : List (List (List Int))} (h : PyFlat.calls PyKv435.shape f (p :: r) = some cs) : ∃ f' c t cs', PyFlat.call PyKv435.shape (p :: r) = some (c, t) ∧ PyFlat.calls PyKv435.shape f' t = some cs' ∧ cs = c :: cs' := by
  cases f with
  | zero => simp [PyFlat.calls] at h
  | succ f =>
    unfold PyFlat.calls at h
    cases h1 : PyFlat.call PyKv435.shape (p :: r) with
    | none => rw [h1] at h; cases h
    | some x =>
      obtain ⟨c, t⟩ := x
      rw [h1] at h
      simp only at h
      cases h2 : PyFlat.calls PyKv435.shape f t with
      | none => rw [h2] at h; cases h
      | some cs' =>
        rw [h2] at h
        exact ⟨f, c, t, cs', rfl, h2, (Option.some.inj h).symm⟩
theorem calls_nil {f : Nat} {cs : List (List (List Int))} (h : PyFlat.calls PyKv435.shape f [] = some cs) : cs = [] := by
  cases f with
  | zero => exact (Option.some.inj h).symm
  | succ f => exact (Option.some.inj h).symm
/-- what is told from a state -/
def tell (st : State) (cs : List (List (List Int))) : List Int := PyFlat.told (PyFlat.played Kv435Neutral.step st cs)
theorem tell_nil (st : State) : tell st [] = [] := rfl
theorem tell_cons {st : State} {c : List (List Int)} {cs : List (List (List Int))} {o : Operation} (h : Kv435Neutral.operationOf c = some o) :
    tell st (c :: cs) = ((Kv435Neutral.resultRow (execute st o).2).length : Int) :: (Kv435Neutral.resultRow (execute st o).2 ++ tell (execute st o).1 cs) := by
  have hs : Kv435Neutral.step st c = ((execute st o).1, Kv435Neutral.resultRow (execute st o).2) := by
    unfold Kv435Neutral.step
    rw [h]
  show PyFlat.told ((Kv435Neutral.step st c).2 :: PyFlat.played Kv435Neutral.step (Kv435Neutral.step st c).1 cs) = _
  rw [hs]
  unfold PyFlat.told
  rw [List.flatMap_cons]
  rfl
structure Ask (zs : List Int) (raw : List (List (List Int))) : Prop where
  cs : PyFlat.calls PyKv435.shape zs.length zs = some raw
  all : ∀ c ∈ raw, Kv435Neutral.asked1 c = true
  due : PyKv435.answers zs = tell none raw
  short : (PyKv435.answers zs).length ≤ 10000000
theorem ask_of {zs : List Int} (h : PyKv435.answers_asked zs = true) : ∃ raw, Ask zs raw := by
  unfold PyKv435.answers_asked at h
  cases hc : PyFlat.calls PyKv435.shape zs.length zs with
  | none => rw [hc] at h; cases h
  | some raw =>
    rw [hc] at h
    simp only [Bool.and_eq_true] at h
    obtain ⟨⟨⟨⟨_, _⟩, _⟩, ha⟩, hsh⟩ := h
    have hw : raw.map PyKv435.whole = raw := by
      rw [show (PyKv435.whole : List (List Int) → List (List Int)) = id from funext whole_id, List.map_id]
    rw [hw] at ha
    unfold Kv435Neutral.asked at ha
    rw [Bool.and_eq_true, List.all_eq_true] at ha
    refine ⟨raw, hc, ha.2, ?_, ?_⟩
    · unfold PyKv435.answers PyKv435.calls
      rw [hc]
      simp only
      rw [hw]
      rfl
    · unfold PyFlat.short at hsh
      exact of_decide_eq_true hsh
end GW
set_option Elab.async false
set_option linter.all false
set_option maxRecDepth 100000
set_option maxHeartbeats 4000000
namespace GW
open PySem PySem.Spec PyProof.Rows L2 Evl
open Kv435 (Entrance Planner Operation Response sumBetween State execute validSettings)
open GT
/-! ### the list handed in stands while the calls are done -/
def CaOk (K : PySem.W.Frag) (H : Hp) (ca : Addr) (xs : List V) (sa p l ra : Addr) : Prop :=
  (∀ H' : Hp, SqL K H' ca xs) ∨ ∃ o, H ca = some o ∧ ca ≠ sa ∧ ca ≠ p ∧ ca ≠ l ∧ ca ≠ ra ∧ ∀ H' : Hp, H' ca = some o → SqL K H' ca xs
theorem CaOk.sq {K : PySem.W.Frag} {H : Hp} {ca sa p l ra : Addr} {xs : List V} (c : CaOk K H ca xs sa p l ra) : SqL K H ca xs := by
  rcases c with c | ⟨o, h, _, _, _, _, k⟩
  · exact c H
  · exact k H h
theorem CaOk.frame {K : PySem.W.Frag} {H H' : Hp} {ca sa p l ra p' l' : Addr} {xs : List V} (c : CaOk K H ca xs sa p l ra) (fr : ∀ b o, H b = some o → b ≠ sa → b ≠ p → b ≠ l → b ≠ ra → H' b = some o) (hp : p' = p ∨ H p' = none) (hl : l' = l ∨ H l' = none) : CaOk K H' ca xs sa p' l' ra := by
  rcases c with c | ⟨o, h, c1, c2, c3, c4, k⟩
  · exact Or.inl c
  · refine Or.inr ⟨o, fr _ _ h c1 c2 c3 c4, c1, ?_, ?_, c4, k⟩
    · rcases hp with rfl | hp
      · exact c2
      · exact ne_of_none h hp
    · rcases hl with rfl | hl
      · exact c3
      · exact ne_of_none h hl
theorem CaOk.start {K : PySem.W.Frag} {H H1 : Hp} {ca sa ra : Addr} {xs : List V} (s : SqL K H ca xs) (x : Ex H H1) (hs : H sa = none) (hr : H ra = none) : CaOk K H1 ca xs sa sa sa ra := by
  rcases s with (h | ⟨o, h⟩) | h
  · exact Or.inr ⟨_, x _ _ h, ne_of_none h hs, ne_of_none h hs, ne_of_none h hs, ne_of_none h hr, fun H' h' => Or.inl (Or.inl h')⟩
  · exact Or.inr ⟨_, x _ _ h, ne_of_none h hs, ne_of_none h hs, ne_of_none h hs, ne_of_none h hr, fun H' h' => Or.inl (Or.inr ⟨o, h'⟩)⟩
  · exact Or.inl fun H' => Or.inr h
theorem StAt.frame {CP CS : Addr} {H H' : Hp} {sa dxs p dx l ra : Addr} {st : State} (S : StAt CP CS H sa dxs p dx l st) (fr : ∀ b o, H b = some o → b ≠ ra → H' b = some o) (n1 : ra ≠ sa) (n2 : ra ≠ p) (n3 : ra ≠ l) : StAt CP CS H' sa dxs p dx l st :=
  ⟨fr _ _ S.ses n1.symm, fun q hq => ⟨⟨fr _ _ (S.pl q hq).1.ob n2.symm, fr _ _ (S.pl q hq).1.li n3.symm⟩, (S.pl q hq).2⟩⟩
theorem cut_ints (zs : List Int) (s t : Nat) : cutV (zs.map V.int) (some (s : Int)) (some (t : Int)) = ((zs.drop s).take (t - s)).map V.int := by
  have q := take_drop_clip (zs.map V.int) s t
  unfold cutV
  rw [HT.sIx_nat, HT.sIx_nat, q]
  simp [List.map_drop, List.map_take]
section
variable {K : PySem.W.Frag} {σ : L2.St} {H : Hp} {ta te : TE} {D : Ends} {tz : TS} {v : V} {l b ca : Addr} {xs ys : List V} {zs : List Int}
theorem q_appZ (hl : H l = some (.lst xs)) (ha : Ev ta σ H (.ref l)) (h : Ev te σ H v) (hz : xs.length < sizeLine) (k : ∀ H1, Ex H H1 → tz D σ (upd H1 l (.lst (xs ++ [v])))) :
    tSeq (tDrop (tBM K "list" rAppend ta (tCons te tNil))) tz D σ H := ha H (Ex.refl H) _ fun H1 e1 =>
  ⟨Or.inl ⟨rfl, xs, sq_of (e1 l _ hl)⟩, h H1 e1 _ fun H2 e2 => ⟨l, xs, v, rfl, rfl, e2 l _ (e1 l _ hl), hz, k H2 (e1.trans e2)⟩⟩
theorem q_ext (hl : H l = some (.lst xs)) (hb : H b = some (.lst ys)) (ha : Ev ta σ H (.ref l)) (h : Ev te σ H (.ref b)) (hz : xs.length + ys.length ≤ sizeLine) (k : ∀ H1, Ex H H1 → tz D σ (upd H1 l (.lst (xs ++ ys)))) :
    tSeq (tDrop (tBM K "list" rExtend ta (tCons te tNil))) tz D σ H := ha H (Ex.refl H) _ fun H1 e1 =>
  ⟨Or.inl ⟨rfl, xs, sq_of (e1 l _ hl)⟩, h H1 e1 _ fun H2 e2 => ⟨l, b, xs, ys, rfl, rfl, e2 l _ (e1 l _ hl), e2 b _ (e1 b _ hb), hz, k H2 (e1.trans e2)⟩⟩
theorem ev_at {i : Nat} {z : Int} (ha : Ev ta σ H (.ref ca)) (hi : Ev te σ H (.int (i : Nat))) (hs : SqL K H ca (zs.map V.int)) (hz : zs[i]? = some z) : Ev (tOp (rIxL K) ta te) σ H (.int z) :=
  ev_op ha hi (rv_ixL hs (atI_nat (by rw [List.getElem?_map, hz]; rfl)))
end
section
variable {P : Program} {w : World} {K : PySem.W.Frag} {mg : Str → Option Value} {base : Heap} {CP CS : Addr}
def gRow (n : Int) : Bool := decide (12 ≤ n) && decide (n < 16)
theorem gRow_is (n : Nat) : gRow (n : Nat) = isRow n := by
  unfold gRow isRow
  congr 1 <;> (apply decide_eq_decide.mpr; omega)
theorem ok_has_row (T : Txt K mg CP CS) (D : Df K mg "has_row" ["number"] s_has_row) : C8.Cal P w K mg base 1 "has_row" (spB1 gRow) [] := by
  refine cal_of D sc_has_row (fun vs H Q E h => by obtain ⟨n, rfl, _⟩ := h; rfl) fun f cdv A outer s H vs Q E hr h => ⟨_, (pss_one (ps_ret (pe_and (pe_cmpR op_ge (pv 0) (C8.pe_gc (by rfl) T.g_FIRST_EVALUATION) (nomark _)) (pe_one (pe_cmpR op_lt (pv 0) (C8.pe_gc (by rfl) T.g_FIRST_WHAT_IF) (nomark _)))))), ?_⟩
  obtain ⟨n, rfl, k⟩ := h
  exact s_ret (ev_andV (ev_op (ev_var rfl) ev_c rv_I0) fun _ => ev_op (ev_var rfl) ev_c rv_I0) k
def spStart (K : PySem.W.Frag) : Sp := fun vs H Q _ => ∃ (ca : Addr) (zs : List Int) (i n : Nat), vs = [.ref ca, .int (i : Nat)] ∧ SqL K H ca (zs.map V.int) ∧ zs[i]? = some ((n : Nat) : Int) ∧ RetV (.int ((i + (if isRow n then 2 else 1) : Nat) : Int)) H Q
theorem ok_arguments_start (T : Txt K mg CP CS) (D : Df K mg "arguments_start" ["calls", "place"] s_arguments_start) (c_has_row : C8.Cal P w K mg base 1 "has_row" (spB1 gRow) []) :
    C8.Cal P w K mg base 2 "arguments_start" (spStart K) [] := by
  refine cal_of D sc_arguments_start (fun vs H Q E h => by obtain ⟨ca, zs, i, n, rfl, _⟩ := h; rfl) fun f cdv A outer s H vs Q E hr h => ⟨_, (pss_cons (ps_if (pt_val (C8.pe_c c_has_row hr (by decide) (by rfl) (pa_cons (pe_ix ix_list (pv 0) (pv 1) (fun _ _ => rfl)) pa_nil))) (pss_one (ps_ret (pe_op op_add (pv 1) pe_int))) pss_nil)
      (pss_one (ps_ret (pe_op op_add (pv 1) pe_int)))), ?_⟩
  obtain ⟨ca, zs, i, n, rfl, hs, hi, k⟩ := h
  refine q_when (et_is (et_B1 (ev_at (ev_var (v := .ref ca) rfl) (ev_var (v := .int (i : Nat)) rfl) hs hi)) (gRow_is n)) (fun hb H1 e1 => ?_) fun hb H1 e1 => ?_
  · refine s_ret (ev_is (ev_add (ev_var (v := .int (i : Nat)) rfl) (ev_c (v := .int 2))) (w := .int ((i + (if isRow n then 2 else 1) : Nat) : Int)) ?_) fun H2 e2 => k H2 (e1.trans e2)
    rw [if_pos hb]; rfl
  · refine s_ret (ev_is (ev_add (ev_var (v := .int (i : Nat)) rfl) (ev_c (v := .int 1))) (w := .int ((i + (if isRow n then 2 else 1) : Nat) : Int)) ?_) fun H2 e2 => k H2 (e1.trans e2)
    rw [if_neg (by rw [hb]; decide)]; rfl
def spCount (K : PySem.W.Frag) : Sp := fun vs H Q _ => ∃ (ca : Addr) (zs : List Int) (i n m : Nat), vs = [.ref ca, .int (i : Nat)] ∧ SqL K H ca (zs.map V.int) ∧ zs[i]? = some ((n : Nat) : Int) ∧ n < 23 ∧ (isRow n = true → zs[i + 1]? = some ((m : Nat) : Int)) ∧ (isRow n = false → m = cnt n) ∧ RetV (.int (m : Nat)) H Q
theorem ok_argument_count (T : Txt K mg CP CS) (D : Df K mg "argument_count" ["calls", "place"] s_argument_count) (c_has_row : C8.Cal P w K mg base 1 "has_row" (spB1 gRow) []) :
    C8.Cal P w K mg base 2 "argument_count" (spCount K) [] := by
  obtain ⟨ct, hct, hT⟩ := T.g_COUNTS
  have g_ARGUMENT_COUNTS : ∃ u, mg "ARGUMENT_COUNTS" = some u ∧ RelV (.ref ct) u := ⟨_, hct, rfl⟩
  refine cal_of D sc_argument_count (fun vs H Q E h => by obtain ⟨ca, zs, i, n, m, rfl, _⟩ := h; rfl) fun f cdv A outer s H vs Q E hr h => ⟨_, (pss_cons (ps_if (pt_val (C8.pe_c c_has_row hr (by decide) (by rfl) (pa_cons (pe_ix ix_list (pv 0) (pv 1) (fun _ _ => rfl)) pa_nil))) (pss_one (ps_ret (pe_ix ix_list (pv 0) (pe_op op_add (pv 1) pe_int) (fun _ _ => rfl)))) pss_nil)
      (pss_one (ps_ret (pe_ix ix_tup (C8.pe_gc (by rfl) g_ARGUMENT_COUNTS) (pe_ix ix_list (pv 0) (pv 1) (fun _ _ => rfl)) (fun _ _ => rfl))))), ?_⟩
  obtain ⟨ca, zs, i, n, m, rfl, hs, hi, hn, hm1, hm2, k⟩ := h
  refine q_when (et_is (et_B1 (ev_at (ev_var (v := .ref ca) rfl) (ev_var (v := .int (i : Nat)) rfl) hs hi)) (gRow_is n)) (fun hb H1 e1 => ?_) fun hb H1 e1 => ?_
  · exact s_ret (ev_at (ev_var (v := .ref ca) rfl) (ev_is (ev_add (ev_var (v := .int (i : Nat)) rfl) (ev_c (v := .int 1))) (w := .int ((i + 1 : Nat) : Int)) rfl) (ex_l e1 hs) (hm1 hb)) fun H2 e2 => k H2 (e1.trans e2)
  · have hm := hm2 hb
    subst hm
    refine s_ret (ev_op (ev_c (v := .ref ct)) (ev_at (ev_var (v := .ref ca) rfl) (ev_var (v := .int (i : Nat)) rfl) (ex_l e1 hs) hi) (rv_ixT (hT H1) (atI_nat (nv_get (by show n < 23; exact hn))))) fun H2 e2 => k H2 (e1.trans e2)
/-- the session, the answers so far, what is still to be done -/
structure Lp (K : PySem.W.Frag) (CP CS : Addr) (zs : List Int) (H : Hp) (ca sa dxs p dx l ra : Addr) (i : Nat) (out : List Int) (raw : List (List (List Int))) (st : State) : Prop where
  cs : CaOk K H ca (zs.map V.int) sa p l ra
  S : StAt CP CS H sa dxs p dx l st
  res : H ra = some (.lst (out.map V.int))
  n1 : ra ≠ sa
  n2 : ra ≠ p
  n3 : ra ≠ l
  ps : ∃ f, PyFlat.calls PyKv435.shape f (zs.drop i) = some raw
  all : ∀ c ∈ raw, Kv435Neutral.asked1 c = true
  due : out ++ tell st raw = PyKv435.answers zs
theorem Lp.mono {zs : List Int} {H H' : Hp} {ca sa dxs p dx l ra : Addr} {i : Nat} {out : List Int} {raw : List (List (List Int))} {st : State} (L : Lp K CP CS zs H ca sa dxs p dx l ra i out raw st) (x : Ex H H') : Lp K CP CS zs H' ca sa dxs p dx l ra i out raw st :=
  ⟨L.cs.frame (fun b o hb _ _ _ _ => x b o hb) (Or.inl rfl) (Or.inl rfl), L.S.mono x, x _ _ L.res, L.n1, L.n2, L.n3, L.ps, L.all, L.due⟩
def spAns (K : PySem.W.Frag) : Sp := fun vs H Q _ => ∃ (a : Addr) (ns : List Int), vs = [.ref a] ∧ SqL K H a (ns.map V.int) ∧ ns.length ≤ 30000 ∧ PyKv435.answers_asked ns = true ∧
  ∀ (H' : Hp) (p : Addr), H' p = some (.lst ((PyKv435.answers ns).map V.int)) → Q (.ref p) H'
theorem fn_at {x : Str} {st : Stmt} {N ps : List Str} {k : Nat} {sp : Sp} {f : Addr} {fd : FuncData} (F : L2.Fun K x x st f fd) (S : FnScope N ps (defScope st)) (len : ∀ vs H Q E, sp vs H Q E → vs.length = ps.length)
    (hbody : ∀ (cdv : Value) (A : Around) (outer : List Env) (s : Shared) (H : Hp) (vs : List V) (Q : VK) (E : XK), Room k (A.deeper (envOfC x (defScope st) s.heap.objs.size f cdv)) → sp vs H Q E →
      ∃ t, PSs (cxOf L2.CX0 P w K mg base N x (defScope st) f cdv A outer s H E).nox (defBody st) t ∧ t { nx := fun _ H' => Q .non H', rt := Q } (start N vs) H) : FnOk P w K mg base L2.CX0 (k + 1) f fd ps sp := F.ok S len hbody
theorem ok_answers (T : Txt K mg CP CS) {f : Addr} {fd : FuncData} (F : L2.Fun K "answers" "answers" s_answers f fd) (c_Sessiond_initd : C8.Mak P w K mg base 1 "Session" CS (spSes CS) [])
    (c_arguments_start : C8.Cal P w K mg base 2 "arguments_start" (spStart K) []) (c_argument_count : C8.Cal P w K mg base 2 "argument_count" (spCount K) [])
    (c_perform : C8.Cal P w K mg base 8 "perform" (spPerf CP CS) []) : FnOk P w K mg base L2.CX0 9 f fd ["calls"] (spAns K) := by
  refine fn_at F sc_answers (fun vs H Q E h => by obtain ⟨a, ns, rfl, _⟩ := h; rfl) fun cdv A outer s H vs Q E hr h => ⟨_, (pss_cons (ps_set (i := 1) sc_answers.nd rfl (Or.inl rfl) (pe_mk0 c_Sessiond_initd hr (by decide) (by rfl)))
      (pss_cons (ps_set (i := 2) sc_answers.nd rfl (Or.inl rfl) (pe_lst pa_nil))
      (pss_cons (ps_set (i := 3) sc_answers.nd rfl (Or.inl rfl) pe_int)
      (pss_cons (ps_while PassesOwn.never (pt_cmpR op_lt (pv 3) (pe_callB call_len_seq (by rfl) T.b_len PySem.boot_len (pa_cons (pv 0) pa_nil)) (nomark _)) (pss_cons (ps_set (i := 4) sc_answers.nd rfl (Or.inl rfl) (C8.pe_c c_arguments_start hr (by decide) (by rfl) (pa_cons (pv 0) (pa_cons (pv 3) pa_nil))))
      (pss_cons (ps_set (i := 5) sc_answers.nd rfl (Or.inl rfl) (pe_op op_add (pv 4) (C8.pe_c c_argument_count hr (by decide) (by rfl) (pa_cons (pv 0) (pa_cons (pv 3) pa_nil)))))
      (pss_cons (ps_set (i := 6) sc_answers.nd rfl (Or.inl rfl) (C8.pe_c c_perform hr (by decide) (by rfl) (pa_cons (pv 1) (pa_cons (pe_ix ix_list (pv 0) (pv 3) (fun _ _ => rfl)) (pa_cons (pe_slice sl_list (pv 0) (po_some (pv 4)) (po_some (pv 5))) pa_nil)))))
      (pss_cons (ps_expr (pe_bm PySem.F.plainAttrs_list PySem.F.slot_list_append PySem.F.type_list_append mt_append (pv 2) (pa_cons (pe_callB call_len_seq (by rfl) T.b_len PySem.boot_len (pa_cons (pv 6) pa_nil)) pa_nil)))
      (pss_cons (ps_expr (pe_bm PySem.F.plainAttrs_list PySem.F.slot_list_extend PySem.F.type_list_extend mt_extend (pv 2) (pa_cons (pv 6) pa_nil)))
      (pss_one (ps_set (i := 3) sc_answers.nd rfl (Or.inl rfl) (pv 5)))))))))
      (pss_one (ps_ret (pv 2))))))), ?_⟩
  obtain ⟨ca, zs, rfl, hs, hz, hask, k⟩ := h
  obtain ⟨raw0, ask⟩ := ask_of hask
  have hshort := ask.short
  intro sa dxs hsa hdx hne
  refine ⟨sa, dxs, rfl, upd_same, fun H1 h1 fr => ⟨rfl, ?_⟩⟩
  have x1 : Ex H H1 := fun b o hb => by
    have nb : b ≠ sa := ne_of_none hb hsa
    refine fr b o ?_ nb
    rw [upd_ne nb, upd_ne (ne_of_none hb hdx)]
    exact hb
  refine q_asgL (el_lst ea_nil (by show 0 ≤ 100000; decide)) fun ra H2 hra e2 h2 => ?_
  refine q_asg (v := .int ((0 : Nat) : Int)) ev_c fun H3 e3 => ?_
  have nra : ra ≠ sa := (ne_of_none h1 hra).symm
  refine q_while (fun m σ' H' => ∃ (dxs p dx l : Addr) (i : Nat) (out : List Int) (raw : List (List (List Int))) (st : State) (v4 v5 v6 : Option V), σ' = [some (.ref ca), some (.ref sa), some (.ref ra), some (.int (i : Nat)), v4, v5, v6] ∧ Lp K CP CS zs H' ca sa dxs p dx l ra i out raw st ∧ m = raw.length) raw0.length
    ⟨dxs, sa, sa, sa, 0, [], raw0, none, none, none, none, rfl, ⟨CaOk.start hs ((x1.trans e2).trans e3) hsa (fresh_back x1 hra), ⟨e3 _ _ (e2 _ _ h1), fun q hq => by cases hq⟩, e3 _ _ h2, nra, nra, nra, ⟨_, ask.cs⟩, ask.all, by rw [ask.due]; rfl⟩, rfl⟩ ?_
  rintro m σ' H' ⟨dxs, p, dx, l, i, out, raw, st, v4, v5, v6, rfl, L, rfl⟩
  refine ⟨_, et_lt (ev_var (v := .int (i : Nat)) rfl) (ev_len (ev_var (v := .ref ca) rfl) L.cs.sq), fun hb H4 e4 => ?_, fun hb H4 e4 => ?_⟩
  · have hi : i < zs.length := by
      have : ((i : Nat) : Int) < (((zs.map V.int).length : Nat) : Int) := of_decide_eq_true hb
      rw [List.length_map] at this
      omega
    have L4 := L.mono e4
    obtain ⟨f0, hcs⟩ := L.ps
    have hdrop : zs.drop i = zs[i] :: zs.drop (i + 1) := List.drop_eq_getElem_cons hi
    rw [hdrop] at hcs
    obtain ⟨f1, c, t, cs', hcall, hrest, rfl⟩ := calls_cons hcs
    obtain ⟨n, ns, o, tu⟩ := turn_of hcall (L.all c List.mem_cons_self)
    have hin : zs[i]? = some ((n : Nat) : Int) := by rw [List.getElem?_eq_getElem hi, tu.num]
    have htell := tell_cons (st := st) (cs := cs') tu.is
    have hn23 := tu.op.lt
    -- where the numbers begin and end
    have hbeg : zs.drop (i + (if isRow n then 2 else 1)) = ns.map Int.ofNat ++ t := by
      cases q : isRow n with
      | false => exact (tu.flat q).1
      | true =>
        have hr := tu.row q
        show zs.drop (i + 2) = _
        have : zs.drop (i + 2) = (zs.drop (i + 1)).drop 1 := by rw [List.drop_drop]
        rw [this, hr]
        rfl
    have hend : zs.drop (i + (if isRow n then 2 else 1) + ns.length) = t := by
      rw [← List.drop_drop, hbeg, List.drop_append_of_le_length (by simp), List.drop_of_length_le (by simp)]
      rfl
    have hlen : ns.length ≤ 30000 := by
      have := congrArg List.length hbeg
      rw [List.length_drop, List.length_append, List.length_map] at this
      omega
    refine ⟨fun σ2 H5 => ∃ m', m' < (c :: cs').length ∧ ∃ (dxs p dx l : Addr) (i : Nat) (out : List Int) (raw : List (List (List Int))) (st : State) (v4 v5 v6 : Option V), σ2 = [some (.ref ca), some (.ref sa), some (.ref ra), some (.int (i : Nat)), v4, v5, v6] ∧ Lp K CP CS zs H5 ca sa dxs p dx l ra i out raw st ∧ m' = raw.length, fun σ2 H5 z => z, ?_⟩
    generalize hst : i + (if isRow n then 2 else 1) = start at hbeg hend
    refine q_asg (v := .int ((start : Nat) : Int)) (ev_call (ea_cons (ev_var (v := .ref ca) rfl) (ea_cons (ev_var (v := .int (i : Nat)) rfl) ea_nil)) fun H5 x Q q _ => ⟨ca, zs, i, n, rfl, ex_l x L4.cs.sq, hin, by rw [hst]; exact q⟩) fun H5 e5 => ?_
    have L5 := L4.mono e5
    refine q_asg (v := .int ((start + ns.length : Nat) : Int)) (ev_is (ev_add (ev_var (v := .int (start : Nat)) rfl) (ev_call (z := .int (ns.length : Nat)) (ea_cons (ev_var (v := .ref ca) rfl) (ea_cons (ev_var (v := .int (i : Nat)) rfl) ea_nil)) fun H6 x Q q _ => ⟨ca, zs, i, n, ns.length, rfl, ex_l x L5.cs.sq, hin, hn23, fun hq => ?_, fun hq => (tu.flat hq).2, q⟩)) rfl) fun H6 e6 => ?_
    · have hr := tu.row hq
      have : zs[i + 1]? = (zs.drop (i + 1))[0]? := by rw [List.getElem?_drop]
      rw [this, hr]
      rfl
    have L6 := L5.mono e6
    have hsl := el_sl (σ := [some (.ref ca), some (.ref sa), some (.ref ra), some (.int (i : Nat)), some (.int (start : Nat)), some (.int ((start + ns.length : Nat) : Int)), v6]) (K := K) (te := tVar 0) (ev_var (v := .ref ca) rfl) (eo_some (te := tVar 4) (i := (start : Nat)) (ev_var rfl)) (eo_some (te := tVar 5) (i := ((start + ns.length : Nat) : Int)) (ev_var rfl)) L6.cs.sq
    have hcut : cutV (zs.map V.int) (some ((start : Nat) : Int)) (some ((start + ns.length : Nat) : Int)) = nv ns := by
      rw [cut_ints, hbeg, Nat.add_sub_cancel_left, List.take_append_of_le_length (by simp), List.take_of_length_le (by simp)]
      rfl
    rw [hcut] at hsl
    refine ⟨_, rfl, ?_⟩
    refine ev_at (K := K) (zs := zs) (i := i) (ta := tVar 0) (te := tVar 3) (ev_var (v := .ref ca) rfl) (ev_var (v := .int (i : Nat)) rfl) L6.cs.sq hin H6 (Ex.refl H6) _ fun H7 e7 => ?_
    refine hsl H7 e7 _ fun ar H8 har e8 h8 => ?_
    have x8 := e7.trans e8
    have L8 := L6.mono x8
    refine ⟨sa, dxs, p, dx, l, ar, st, n, ns, o, rfl, tu.op, h8, by omega, L8.S, ?_⟩
    intro H9 a p' dx' l' ha h9 S9 hp' hl' fr9
    have hra9 : H9 ra = some (.lst (out.map V.int)) := fr9 _ _ L8.res L8.n1 L8.n2 L8.n3
    have nar : a ≠ ra := (ne_of_none L8.res ha).symm
    have np' : ra ≠ p' := by
      rcases hp' with rfl | hp'
      · exact L8.n2
      · exact ne_of_none L8.res hp'
    have nl' : ra ≠ l' := by
      rcases hl' with rfl | hl'
      · exact L8.n3
      · exact ne_of_none L8.res hl'
    have cs9 : CaOk K H9 ca (zs.map V.int) sa p' l' ra := L8.cs.frame (fun b o hb c1 c2 c3 _ => fr9 b o hb c1 c2 c3) hp' hl'
    have hdue := L8.due
    rw [htell] at hdue
    have hl0 := congrArg List.length hdue
    rw [List.length_append, List.length_cons, List.length_append] at hl0
    have hS24 : (16777216 : Nat) = sizeLine := by decide
    have hrow : row (execute st o).2 = (Kv435Neutral.resultRow (execute st o).2).map V.int := rfl
    refine q_appZ (v := .int ((Kv435Neutral.resultRow (execute st o).2).length : Int)) hra9 (ev_var (v := .ref ra) rfl) (ev_is (ev_len (ev_var (v := .ref a) rfl) (sq_of h9)) (by rw [hrow, List.length_map])) (by rw [List.length_map]; omega) fun H10 e10 => ?_
    have ha10 : upd H10 ra (.lst (out.map V.int ++ [.int ((Kv435Neutral.resultRow (execute st o).2).length : Int)])) a = some (.lst (row (execute st o).2)) := by
      rw [upd_ne nar]
      exact e10 _ _ h9
    refine q_ext upd_same ha10 (ev_var (v := .ref ra) rfl) (ev_var (v := .ref a) rfl) (by rw [hrow, List.length_append, List.length_map, List.length_map, List.length_singleton]; omega) fun H11 e11 => ?_
    refine s_asg (ev_var (v := .int ((start + ns.length : Nat) : Int)) rfl) fun H12 e12 => ?_
    have fin : ∀ b o', H9 b = some o' → b ≠ ra → H12 b = some o' := fun b o' hb nb => by
      refine e12 _ _ ?_
      rw [upd_ne nb]
      refine e11 _ _ ?_
      rw [upd_ne nb]
      exact e10 _ _ hb
    refine ⟨cs'.length, by rw [List.length_cons]; omega, dxs, p', dx', l', start + ns.length, out ++ ((Kv435Neutral.resultRow (execute st o).2).length : Int) :: Kv435Neutral.resultRow (execute st o).2, cs', (execute st o).1, _, _, _, rfl, ?_, rfl⟩
    refine ⟨cs9.frame (fun b o' hb _ _ _ c4 => fin b o' hb c4) (Or.inl rfl) (Or.inl rfl), S9.frame fin L8.n1 np' nl', e12 _ _ ?_, L8.n1, np', nl', ⟨f1, by rw [hend]; exact hrest⟩, fun c' hc' => L.all c' (List.mem_cons_of_mem _ hc'), ?_⟩
    · rw [upd_same, hrow]
      simp
    · rw [← hdue]
      simp
  · have hi : zs.length ≤ i := by
      have : ¬ ((i : Nat) : Int) < (((zs.map V.int).length : Nat) : Int) := of_decide_eq_false hb
      rw [List.length_map] at this
      omega
    obtain ⟨f0, hcs⟩ := L.ps
    rw [List.drop_of_length_le hi] at hcs
    obtain rfl := calls_nil hcs
    have hdue := L.due
    rw [tell_nil, List.append_nil] at hdue
    subst hdue
    exact s_ret (ev_var (v := .ref ra) rfl) fun H5 e5 => k H5 ra (e5 _ _ (e4 _ _ L.res))
end
end GW
set_option Elab.async false
set_option linter.all false
set_option maxRecDepth 100000
set_option maxHeartbeats 4000000
namespace GW
open PySem PySem.Spec PyProof.Rows L2 Evl
def Bi (x qual : Str) (ps : List Str) (st : Stmt) : Prop := ∀ (kV doc pm : Value) (an : Option Addr) (cdv ct : Value) (us : List Value), us.length = ps.length → bindArgs (PySem.W.fnOf x qual (defArgs st) (defBody st) (defScope st) .none kV doc pm an cdv ct) ⟨us, []⟩ = pure (ps.zip us)
theorem bi_per_gate_allowed : Bi "per_gate_allowed" "per_gate_allowed" ["people"] s_per_gate_allowed := fun _ _ _ _ _ _ us hl => match us, hl with | [_], _ => rfl
theorem bi_max_gates_allowed : Bi "max_gates_allowed" "max_gates_allowed" ["gates"] s_max_gates_allowed := fun _ _ _ _ _ _ us hl => match us, hl with | [_], _ => rfl
theorem bi_max_wait_allowed : Bi "max_wait_allowed" "max_wait_allowed" ["minutes"] s_max_wait_allowed := fun _ _ _ _ _ _ us hl => match us, hl with | [_], _ => rfl
theorem bi_arrivals_allowed : Bi "arrivals_allowed" "arrivals_allowed" ["people"] s_arrivals_allowed := fun _ _ _ _ _ _ us hl => match us, hl with | [_], _ => rfl
theorem bi_gates_allowed : Bi "gates_allowed" "gates_allowed" ["gates"] s_gates_allowed := fun _ _ _ _ _ _ us hl => match us, hl with | [_], _ => rfl
theorem bi_no_planner : Bi "no_planner" "no_planner" [] s_no_planner := fun _ _ _ _ _ _ us hl => match us, hl with | [], _ => rfl
theorem bi_no_such_minute : Bi "no_such_minute" "no_such_minute" [] s_no_such_minute := fun _ _ _ _ _ _ us hl => match us, hl with | [], _ => rfl
theorem bi_no_minutes : Bi "no_minutes" "no_minutes" [] s_no_minutes := fun _ _ _ _ _ _ us hl => match us, hl with | [], _ => rfl
theorem bi_out_of_range : Bi "out_of_range" "out_of_range" [] s_out_of_range := fun _ _ _ _ _ _ us hl => match us, hl with | [], _ => rfl
theorem bi_too_many_minutes : Bi "too_many_minutes" "too_many_minutes" [] s_too_many_minutes := fun _ _ _ _ _ _ us hl => match us, hl with | [], _ => rfl
theorem bi_none_found : Bi "none_found" "none_found" [] s_none_found := fun _ _ _ _ _ _ us hl => match us, hl with | [], _ => rfl
theorem bi_add_minute : Bi "add_minute" "add_minute" ["planner", "arrivals"] s_add_minute := fun _ _ _ _ _ _ us hl => match us, hl with | [_, _], _ => rfl
theorem bi_set_arrivals : Bi "set_arrivals" "set_arrivals" ["planner", "minute", "arrivals"] s_set_arrivals := fun _ _ _ _ _ _ us hl => match us, hl with | [_, _, _], _ => rfl
theorem bi_remove_last_minute : Bi "remove_last_minute" "remove_last_minute" ["planner"] s_remove_last_minute := fun _ _ _ _ _ _ us hl => match us, hl with | [_], _ => rfl
theorem bi_set_per_gate : Bi "set_per_gate" "set_per_gate" ["planner", "people"] s_set_per_gate := fun _ _ _ _ _ _ us hl => match us, hl with | [_, _], _ => rfl
theorem bi_set_max_gates : Bi "set_max_gates" "set_max_gates" ["planner", "gates"] s_set_max_gates := fun _ _ _ _ _ _ us hl => match us, hl with | [_, _], _ => rfl
theorem bi_set_max_wait : Bi "set_max_wait" "set_max_wait" ["planner", "minutes"] s_set_max_wait := fun _ _ _ _ _ _ us hl => match us, hl with | [_, _], _ => rfl
theorem bi_arrivals_between : Bi "arrivals_between" "arrivals_between" ["planner", "first", "last"] s_arrivals_between := fun _ _ _ _ _ _ us hl => match us, hl with | [_, _, _], _ => rfl
theorem bi_is_infeasible : Bi "is_infeasible" "is_infeasible" ["planner", "first", "last"] s_is_infeasible := fun _ _ _ _ _ _ us hl => match us, hl with | [_, _, _], _ => rfl
theorem bi_earliest_infeasible_interval : Bi "earliest_infeasible_interval" "earliest_infeasible_interval" ["planner"] s_earliest_infeasible_interval := fun _ _ _ _ _ _ us hl => match us, hl with | [_], _ => rfl
theorem bi_has_feasible_schedule : Bi "has_feasible_schedule" "has_feasible_schedule" ["planner"] s_has_feasible_schedule := fun _ _ _ _ _ _ us hl => match us, hl with | [_], _ => rfl
theorem bi_schedule_length : Bi "schedule_length" "schedule_length" ["planner"] s_schedule_length := fun _ _ _ _ _ _ us hl => match us, hl with | [_], _ => rfl
theorem bi_gate_minutes_needed : Bi "gate_minutes_needed" "gate_minutes_needed" ["planner", "first", "last"] s_gate_minutes_needed := fun _ _ _ _ _ _ us hl => match us, hl with | [_, _, _], _ => rfl
theorem bi_fewest_gates_next : Bi "fewest_gates_next" "fewest_gates_next" ["planner", "gates"] s_fewest_gates_next := fun _ _ _ _ _ _ us hl => match us, hl with | [_, _], _ => rfl
theorem bi_find_best_schedule : Bi "find_best_schedule" "find_best_schedule" ["planner"] s_find_best_schedule := fun _ _ _ _ _ _ us hl => match us, hl with | [_], _ => rfl
theorem bi_arrived_by : Bi "arrived_by" "arrived_by" ["planner", "minute"] s_arrived_by := fun _ _ _ _ _ _ us hl => match us, hl with | [_, _], _ => rfl
theorem bi_people_admitted : Bi "people_admitted" "people_admitted" ["planner", "schedule"] s_people_admitted := fun _ _ _ _ _ _ us hl => match us, hl with | [_, _], _ => rfl
theorem bi_people_waiting : Bi "people_waiting" "people_waiting" ["planner", "schedule"] s_people_waiting := fun _ _ _ _ _ _ us hl => match us, hl with | [_, _], _ => rfl
theorem bi_minute_of_admission : Bi "minute_of_admission" "minute_of_admission" ["planner", "people", "minute"] s_minute_of_admission := fun _ _ _ _ _ _ us hl => match us, hl with | [_, _, _], _ => rfl
theorem bi_longest_waiting_time : Bi "longest_waiting_time" "longest_waiting_time" ["planner", "schedule"] s_longest_waiting_time := fun _ _ _ _ _ _ us hl => match us, hl with | [_, _], _ => rfl
theorem bi_counted : Bi "counted" "counted" ["numbers"] s_counted := fun _ _ _ _ _ _ us hl => match us, hl with | [_], _ => rfl
theorem bi_list_arrivals : Bi "list_arrivals" "list_arrivals" ["planner"] s_list_arrivals := fun _ _ _ _ _ _ us hl => match us, hl with | [_], _ => rfl
theorem bi_best_schedule : Bi "best_schedule" "best_schedule" ["planner"] s_best_schedule := fun _ _ _ _ _ _ us hl => match us, hl with | [_], _ => rfl
theorem bi_min_gate_minutes : Bi "min_gate_minutes" "min_gate_minutes" ["planner"] s_min_gate_minutes := fun _ _ _ _ _ _ us hl => match us, hl with | [_], _ => rfl
theorem bi_is_possible : Bi "is_possible" "is_possible" ["planner"] s_is_possible := fun _ _ _ _ _ _ us hl => match us, hl with | [_], _ => rfl
theorem bi_infeasible_interval : Bi "infeasible_interval" "infeasible_interval" ["planner"] s_infeasible_interval := fun _ _ _ _ _ _ us hl => match us, hl with | [_], _ => rfl
theorem bi_total_arrivals : Bi "total_arrivals" "total_arrivals" ["planner", "first", "last"] s_total_arrivals := fun _ _ _ _ _ _ us hl => match us, hl with | [_, _, _], _ => rfl
theorem bi_get_state : Bi "get_state" "get_state" ["planner"] s_get_state := fun _ _ _ _ _ _ us hl => match us, hl with | [_], _ => rfl
theorem bi_has_form : Bi "has_form" "has_form" ["planner", "schedule"] s_has_form := fun _ _ _ _ _ _ us hl => match us, hl with | [_, _], _ => rfl
theorem bi_is_feasible : Bi "is_feasible" "is_feasible" ["planner", "schedule"] s_is_feasible := fun _ _ _ _ _ _ us hl => match us, hl with | [_, _], _ => rfl
theorem bi_admitted : Bi "admitted" "admitted" ["planner", "schedule"] s_admitted := fun _ _ _ _ _ _ us hl => match us, hl with | [_, _], _ => rfl
theorem bi_queue_lengths : Bi "queue_lengths" "queue_lengths" ["planner", "schedule"] s_queue_lengths := fun _ _ _ _ _ _ us hl => match us, hl with | [_, _], _ => rfl
theorem bi_longest_wait : Bi "longest_wait" "longest_wait" ["planner", "schedule"] s_longest_wait := fun _ _ _ _ _ _ us hl => match us, hl with | [_, _], _ => rfl
theorem bi_another_like : Bi "another_like" "another_like" ["planner"] s_another_like := fun _ _ _ _ _ _ us hl => match us, hl with | [_], _ => rfl
theorem bi_with_max_gates : Bi "with_max_gates" "with_max_gates" ["planner", "gates"] s_with_max_gates := fun _ _ _ _ _ _ us hl => match us, hl with | [_, _], _ => rfl
theorem bi_with_max_wait : Bi "with_max_wait" "with_max_wait" ["planner", "minutes"] s_with_max_wait := fun _ _ _ _ _ _ us hl => match us, hl with | [_, _], _ => rfl
theorem bi_with_arrivals : Bi "with_arrivals" "with_arrivals" ["planner", "minute", "people"] s_with_arrivals := fun _ _ _ _ _ _ us hl => match us, hl with | [_, _, _], _ => rfl
theorem bi_min_max_gates : Bi "min_max_gates" "min_max_gates" ["planner"] s_min_max_gates := fun _ _ _ _ _ _ us hl => match us, hl with | [_], _ => rfl
theorem bi_min_max_wait : Bi "min_max_wait" "min_max_wait" ["planner"] s_min_max_wait := fun _ _ _ _ _ _ us hl => match us, hl with | [_], _ => rfl
theorem bi_gate_minutes_if_arrivals : Bi "gate_minutes_if_arrivals" "gate_minutes_if_arrivals" ["planner", "minute", "people"] s_gate_minutes_if_arrivals := fun _ _ _ _ _ _ us hl => match us, hl with | [_, _, _], _ => rfl
theorem bi_gate_minutes_if_max_wait : Bi "gate_minutes_if_max_wait" "gate_minutes_if_max_wait" ["planner", "minutes"] s_gate_minutes_if_max_wait := fun _ _ _ _ _ _ us hl => match us, hl with | [_, _], _ => rfl
theorem bi_max_arrivals : Bi "max_arrivals" "max_arrivals" ["planner", "minute"] s_max_arrivals := fun _ _ _ _ _ _ us hl => match us, hl with | [_, _], _ => rfl
theorem bi_change : Bi "change" "change" ["planner", "number", "arguments"] s_change := fun _ _ _ _ _ _ us hl => match us, hl with | [_, _, _], _ => rfl
theorem bi_query : Bi "query" "query" ["planner", "number"] s_query := fun _ _ _ _ _ _ us hl => match us, hl with | [_, _], _ => rfl
theorem bi_evaluate : Bi "evaluate" "evaluate" ["planner", "number", "schedule"] s_evaluate := fun _ _ _ _ _ _ us hl => match us, hl with | [_, _, _], _ => rfl
theorem bi_ask_what_if : Bi "ask_what_if" "ask_what_if" ["planner", "number", "arguments"] s_ask_what_if := fun _ _ _ _ _ _ us hl => match us, hl with | [_, _, _], _ => rfl
theorem bi_add_up : Bi "add_up" "add_up" ["planner", "number", "arguments"] s_add_up := fun _ _ _ _ _ _ us hl => match us, hl with | [_, _, _], _ => rfl
theorem bi_perform : Bi "perform" "perform" ["session", "number", "arguments"] s_perform := fun _ _ _ _ _ _ us hl => match us, hl with | [_, _, _], _ => rfl
theorem bi_has_row : Bi "has_row" "has_row" ["number"] s_has_row := fun _ _ _ _ _ _ us hl => match us, hl with | [_], _ => rfl
theorem bi_arguments_start : Bi "arguments_start" "arguments_start" ["calls", "place"] s_arguments_start := fun _ _ _ _ _ _ us hl => match us, hl with | [_, _], _ => rfl
theorem bi_argument_count : Bi "argument_count" "argument_count" ["calls", "place"] s_argument_count := fun _ _ _ _ _ _ us hl => match us, hl with | [_, _], _ => rfl
theorem bi_answers : Bi "answers" "answers" ["calls"] s_answers := fun _ _ _ _ _ _ us hl => match us, hl with | [_], _ => rfl
theorem bi_Plannerd_initd : Bi "__init__" "Planner.__init__" ["self", "per_gate", "max_gates", "max_wait"] s_Plannerd_initd := fun _ _ _ _ _ _ us hl => match us, hl with | [_, _, _, _], _ => rfl
theorem bi_Planner_has_minute : Bi "has_minute" "Planner.has_minute" ["self", "minute"] s_Planner_has_minute := fun _ _ _ _ _ _ us hl => match us, hl with | [_, _], _ => rfl
theorem bi_Sessiond_initd : Bi "__init__" "Session.__init__" ["self"] s_Sessiond_initd := fun _ _ _ _ _ _ us hl => match us, hl with | [_], _ => rfl
theorem bi_Session_create : Bi "create" "Session.create" ["self", "per_gate", "max_gates", "max_wait"] s_Session_create := fun _ _ _ _ _ _ us hl => match us, hl with | [_, _, _, _], _ => rfl
theorem df_mk {K : PySem.W.Frag} {h : Heap} {mg : Str → Option Value} {x : Str} {ps : List Str} {st : Stmt} {f : Addr} {oc : Value} {od an : Option Addr} {osl : Array (Option Value)} {kV dc pm cd ct : Value} (X : K.In h) (G : h.Ns mainGlobals mg)
    (a : PySem.W.nsIn K mainGlobals x = some (some (.ref f))) (l : K.lookup f = some ⟨oc, od, .func (PySem.W.fnOf x x (defArgs st) (defBody st) (defScope st) .none kV dc pm an cd ct), osl⟩) (c : PySem.W.codeIn K cd x = true) (k : PySem.W.keepIn K (.ref f) = true) (b : Bi x x ps st) : Df K mg x ps st :=
  ⟨f, _, fun_mk l c k, PySem.W.mg_of X G a, k, (fun_mk l c k).binds b⟩
theorem use {p q : Prop} (h : p) (k : p → q) : q := k h
theorem cls_mk {K : PySem.W.Frag} {h : Heap} {mg : Str → Option Value} {x : Str} {C : Addr} (X : K.In h) (G : h.Ns mainGlobals mg) (a : PySem.W.nsIn K mainGlobals x = some (some (.ref C))) : mg x = some (.ref C) := PySem.W.mg_of X G a
structure Kl (K : PySem.W.Frag) (C : Addr) : Prop where
  cl : Cls K C
  mks : PySem.W.makesIn K C = true
  kc : PySem.W.keepIn K (.ref C) = true
theorem kl_mk {K : PySem.W.Frag} {h : Heap} {mg : Str → Option Value} {x : Str} {C : Addr} (X : K.In h) (hm : mg x = some (.ref C)) (pg : PySem.W.plainGet K C Str.empty = true) (hd : PySem.W.hasDictIn K C = true) (po : PySem.W.plainOver K C = true) (sa : PySem.W.findIn K (.ref C) "__setattr__" = some (some (.builtin "object.__setattr__"))) (mk : PySem.W.makesIn K C = true) (kc : PySem.W.keepIn K (.ref C) = true) : Kl K C :=
  ⟨⟨pg, hd, po, sa⟩, mk, kc⟩
theorem na_mk {K : PySem.W.Frag} {h : Heap} {mg : Str → Option Value} {x f : Str} {C : Addr} (X : K.In h) (hm : mg x = some (.ref C)) (n : PySem.W.findIn K (.ref C) f = some none) : NoAttr K C f := n
theorem bl_mk {K : PySem.W.Frag} {h : Heap} {mg : Str → Option Value} {n : Str} (X : K.In h) (G : h.Ns mainGlobals mg) (a : PySem.W.nsIn K mainGlobals n = some none) : mg n = none := PySem.W.mg_none_of X G a
theorem gi_mk {K : PySem.W.Frag} {h : Heap} {mg : Str → Option Value} {x : Str} {n : Int} {t : Tok} (X : K.In h) (G : h.Ns mainGlobals mg) (a : PySem.W.nsIn K mainGlobals x = some (some (.int n t))) : ∃ u, mg x = some u ∧ RelV (.int n) u := ⟨_, PySem.W.mg_of X G a, _, rfl⟩
theorem cnt_mk {K : PySem.W.Frag} {h : Heap} {mg : Str → Option Value} {x : Str} {A : Addr} {d : Option Addr} {n : Nat} {sl : Array (Option Value)} {t0 t1 t2 t3 t4 t5 t6 t7 t8 t9 t10 t11 t12 t13 t14 t15 t16 t17 t18 t19 t20 t21 t22 : Tok} (X : K.In h) (G : h.Ns mainGlobals mg)
    (a : PySem.W.nsIn K mainGlobals x = some (some (.ref A)))
    (l : K.lookup A = some ⟨.type "tuple", d, .seq #[.int 3 t0, .int 1 t1, .int 2 t2, .int 0 t3, .int 1 t4, .int 1 t5, .int 1 t6, .int 0 t7, .int 0 t8, .int 0 t9, .int 0 t10, .int 0 t11, .int 0 t12, .int 0 t13, .int 0 t14, .int 0 t15, .int 0 t16, .int 0 t17, .int 2 t18, .int 1 t19, .int 1 t20, .int 2 t21, .int 0 t22] n, sl⟩) :
    ∃ (a : Addr), mg x = some (.ref a) ∧ ∀ H : Hp, SqT K H a (nv [3, 1, 2, 0, 1, 1, 1, 0, 0, 0, 0, 0, 0, 0, 0, 0, 0, 0, 2, 1, 1, 2, 0]) :=
  ⟨A, PySem.W.mg_of X G a, fun H => Or.inr ⟨_, _, _, l, rfl, rfl, by show 23 ≤ sizeLine; decide, by
    refine .cons ⟨_, rfl⟩ <| .cons ⟨_, rfl⟩ <| .cons ⟨_, rfl⟩ <| .cons ⟨_, rfl⟩ <| .cons ⟨_, rfl⟩ <| .cons ⟨_, rfl⟩ <| .cons ⟨_, rfl⟩ <| .cons ⟨_, rfl⟩ <| .cons ⟨_, rfl⟩ <| .cons ⟨_, rfl⟩ <| .cons ⟨_, rfl⟩ <| .cons ⟨_, rfl⟩ <| .cons ⟨_, rfl⟩ <| .cons ⟨_, rfl⟩ <| .cons ⟨_, rfl⟩ <| .cons ⟨_, rfl⟩ <| .cons ⟨_, rfl⟩ <| .cons ⟨_, rfl⟩ <| .cons ⟨_, rfl⟩ <| .cons ⟨_, rfl⟩ <| .cons ⟨_, rfl⟩ <| .cons ⟨_, rfl⟩ <| .cons ⟨_, rfl⟩ .nil⟩⟩
theorem dm_mk {K : PySem.W.Frag} {hp : Heap} {mg : Str → Option Value} {C : Addr} {x m qual : Str} {ps : List Str} {st : Stmt} {f : Addr} {oc : Value} {od an : Option Addr} {osl : Array (Option Value)} {kV dc pm cd ct : Value} (X : K.In hp) (hm : mg x = some (.ref C))
    (a : PySem.W.findIn K (.ref C) m = some (some (.ref f))) (i : PySem.W.isFn K (.ref f) = true) (l : K.lookup f = some ⟨oc, od, .func (PySem.W.fnOf m qual (defArgs st) (defBody st) (defScope st) .none kV dc pm an cd ct), osl⟩) (c : PySem.W.codeIn K cd qual = true) (k : PySem.W.keepIn K (.ref f) = true) (b : Bi m qual ps st) : Dm K C m qual ps st :=
  ⟨f, _, fun_mk l c k, ⟨a, i, k⟩, (fun_mk l c k).binds b⟩
theorem di_mk {K : PySem.W.Frag} {h : Heap} {mg : Str → Option Value} {C : Addr} {x qual : Str} {ps : List Str} {st : Stmt} {f : Addr} {oc : Value} {od an : Option Addr} {osl : Array (Option Value)} {kV dc pm cd ct : Value} (X : K.In h)
    (hm : mg x = some (.ref C)) (kl : Kl K C)
    (a : PySem.W.findIn K (.ref C) "__init__" = some (some (.ref f))) (i : PySem.W.isFn K (.ref f) = true) (l : K.lookup f = some ⟨oc, od, .func (PySem.W.fnOf "__init__" qual (defArgs st) (defBody st) (defScope st) .none kV dc pm an cd ct), osl⟩) (c : PySem.W.codeIn K cd qual = true) (k : PySem.W.keepIn K (.ref f) = true) (b : Bi "__init__" qual ps st) : Di K mg x qual C ps st :=
  ⟨f, _, fun_mk l c k, ⟨kl.mks, a, i, kl.kc⟩, hm, (fun_mk l c k).binds b⟩
end GW
set_option Elab.async false
set_option linter.all false
set_option maxRecDepth 100000
set_option maxHeartbeats 4000000
namespace GW
open PySem PySem.Spec PyProof.Rows L2 Evl
/-- all that the top has written -/
structure Facts (K : PySem.W.Frag) (mg : Str → Option Value) (CP CS : Addr) : Prop where
  T : Txt K mg CP CS
  D_per_gate_allowed : Df K mg "per_gate_allowed" ["people"] s_per_gate_allowed
  D_max_gates_allowed : Df K mg "max_gates_allowed" ["gates"] s_max_gates_allowed
  D_max_wait_allowed : Df K mg "max_wait_allowed" ["minutes"] s_max_wait_allowed
  D_arrivals_allowed : Df K mg "arrivals_allowed" ["people"] s_arrivals_allowed
  D_gates_allowed : Df K mg "gates_allowed" ["gates"] s_gates_allowed
  D_no_planner : Df K mg "no_planner" [] s_no_planner
  D_no_such_minute : Df K mg "no_such_minute" [] s_no_such_minute
  D_no_minutes : Df K mg "no_minutes" [] s_no_minutes
  D_out_of_range : Df K mg "out_of_range" [] s_out_of_range
  D_too_many_minutes : Df K mg "too_many_minutes" [] s_too_many_minutes
  D_none_found : Df K mg "none_found" [] s_none_found
  D_add_minute : Df K mg "add_minute" ["planner", "arrivals"] s_add_minute
  D_set_arrivals : Df K mg "set_arrivals" ["planner", "minute", "arrivals"] s_set_arrivals
  D_remove_last_minute : Df K mg "remove_last_minute" ["planner"] s_remove_last_minute
  D_set_per_gate : Df K mg "set_per_gate" ["planner", "people"] s_set_per_gate
  D_set_max_gates : Df K mg "set_max_gates" ["planner", "gates"] s_set_max_gates
  D_set_max_wait : Df K mg "set_max_wait" ["planner", "minutes"] s_set_max_wait
  D_arrivals_between : Df K mg "arrivals_between" ["planner", "first", "last"] s_arrivals_between
  D_is_infeasible : Df K mg "is_infeasible" ["planner", "first", "last"] s_is_infeasible
  D_earliest_infeasible_interval : Df K mg "earliest_infeasible_interval" ["planner"] s_earliest_infeasible_interval
  D_has_feasible_schedule : Df K mg "has_feasible_schedule" ["planner"] s_has_feasible_schedule
  D_schedule_length : Df K mg "schedule_length" ["planner"] s_schedule_length
  D_gate_minutes_needed : Df K mg "gate_minutes_needed" ["planner", "first", "last"] s_gate_minutes_needed
  D_fewest_gates_next : Df K mg "fewest_gates_next" ["planner", "gates"] s_fewest_gates_next
  D_find_best_schedule : Df K mg "find_best_schedule" ["planner"] s_find_best_schedule
  D_arrived_by : Df K mg "arrived_by" ["planner", "minute"] s_arrived_by
  D_people_admitted : Df K mg "people_admitted" ["planner", "schedule"] s_people_admitted
  D_people_waiting : Df K mg "people_waiting" ["planner", "schedule"] s_people_waiting
  D_minute_of_admission : Df K mg "minute_of_admission" ["planner", "people", "minute"] s_minute_of_admission
  D_longest_waiting_time : Df K mg "longest_waiting_time" ["planner", "schedule"] s_longest_waiting_time
  D_counted : Df K mg "counted" ["numbers"] s_counted
  D_list_arrivals : Df K mg "list_arrivals" ["planner"] s_list_arrivals
  D_best_schedule : Df K mg "best_schedule" ["planner"] s_best_schedule
  D_min_gate_minutes : Df K mg "min_gate_minutes" ["planner"] s_min_gate_minutes
  D_is_possible : Df K mg "is_possible" ["planner"] s_is_possible
  D_infeasible_interval : Df K mg "infeasible_interval" ["planner"] s_infeasible_interval
  D_total_arrivals : Df K mg "total_arrivals" ["planner", "first", "last"] s_total_arrivals
  D_get_state : Df K mg "get_state" ["planner"] s_get_state
  D_has_form : Df K mg "has_form" ["planner", "schedule"] s_has_form
  D_is_feasible : Df K mg "is_feasible" ["planner", "schedule"] s_is_feasible
  D_admitted : Df K mg "admitted" ["planner", "schedule"] s_admitted
  D_queue_lengths : Df K mg "queue_lengths" ["planner", "schedule"] s_queue_lengths
  D_longest_wait : Df K mg "longest_wait" ["planner", "schedule"] s_longest_wait
  D_another_like : Df K mg "another_like" ["planner"] s_another_like
  D_with_max_gates : Df K mg "with_max_gates" ["planner", "gates"] s_with_max_gates
  D_with_max_wait : Df K mg "with_max_wait" ["planner", "minutes"] s_with_max_wait
  D_with_arrivals : Df K mg "with_arrivals" ["planner", "minute", "people"] s_with_arrivals
  D_min_max_gates : Df K mg "min_max_gates" ["planner"] s_min_max_gates
  D_min_max_wait : Df K mg "min_max_wait" ["planner"] s_min_max_wait
  D_gate_minutes_if_arrivals : Df K mg "gate_minutes_if_arrivals" ["planner", "minute", "people"] s_gate_minutes_if_arrivals
  D_gate_minutes_if_max_wait : Df K mg "gate_minutes_if_max_wait" ["planner", "minutes"] s_gate_minutes_if_max_wait
  D_max_arrivals : Df K mg "max_arrivals" ["planner", "minute"] s_max_arrivals
  D_change : Df K mg "change" ["planner", "number", "arguments"] s_change
  D_query : Df K mg "query" ["planner", "number"] s_query
  D_evaluate : Df K mg "evaluate" ["planner", "number", "schedule"] s_evaluate
  D_ask_what_if : Df K mg "ask_what_if" ["planner", "number", "arguments"] s_ask_what_if
  D_add_up : Df K mg "add_up" ["planner", "number", "arguments"] s_add_up
  D_perform : Df K mg "perform" ["session", "number", "arguments"] s_perform
  D_has_row : Df K mg "has_row" ["number"] s_has_row
  D_arguments_start : Df K mg "arguments_start" ["calls", "place"] s_arguments_start
  D_argument_count : Df K mg "argument_count" ["calls", "place"] s_argument_count
  D_answers : Df K mg "answers" ["calls"] s_answers
  D_Plannerd_initd : Di K mg "Planner" "Planner.__init__" CP ["self", "per_gate", "max_gates", "max_wait"] s_Plannerd_initd
  D_Planner_has_minute : Dm K CP "has_minute" "Planner.has_minute" ["self", "minute"] s_Planner_has_minute
  D_Sessiond_initd : Di K mg "Session" "Session.__init__" CS ["self"] s_Sessiond_initd
  D_Session_create : Dm K CS "create" "Session.create" ["self", "per_gate", "max_gates", "max_wait"] s_Session_create
theorem all_of {P : Program} {w : World} {K : PySem.W.Frag} {mg : Str → Option Value} {CP CS fa : Addr} (A : Facts K mg CP CS) (hmg : mg "answers" = some (.ref fa)) :
    ∃ fd : FuncData, (∀ (s : Shared) (us : List Value), us.length = (["calls"] : List Str).length → BindsTo s fd ⟨us, []⟩ ((["calls"] : List Str).zip us)) ∧ ∀ base : Heap, K.In base → base.Ns mainGlobals mg → FnOk P w K mg base CX0 9 fa fd ["calls"] (spAns K) := by
  obtain ⟨f, fd, F, hm, kp, b⟩ := A.D_answers.ex
  have e := hmg.symm.trans hm
  cases e
  refine ⟨fd, ?_, fun base _ _ => ?_⟩
  · obtain ⟨oc, od, kV, doc, pm, an, cdv, ct, osl, rfl, lk, hcd⟩ := F.ex
    exact fun s us hu => .of_eq (bi_answers kV doc pm an cdv ct us hu)
  have c_per_gate_allowed := ok_per_gate_allowed (P := P) (w := w) (base := base) A.T A.D_per_gate_allowed 
  have c_max_gates_allowed := ok_max_gates_allowed (P := P) (w := w) (base := base) A.T A.D_max_gates_allowed 
  have c_max_wait_allowed := ok_max_wait_allowed (P := P) (w := w) (base := base) A.T A.D_max_wait_allowed 
  have c_arrivals_allowed := ok_arrivals_allowed (P := P) (w := w) (base := base) A.T A.D_arrivals_allowed 
  have c_gates_allowed := ok_gates_allowed (P := P) (w := w) (base := base) A.T A.D_gates_allowed 
  have c_no_planner := ok_no_planner (P := P) (w := w) (base := base) A.D_no_planner 
  have c_no_such_minute := ok_no_such_minute (P := P) (w := w) (base := base) A.D_no_such_minute 
  have c_no_minutes := ok_no_minutes (P := P) (w := w) (base := base) A.D_no_minutes 
  have c_out_of_range := ok_out_of_range (P := P) (w := w) (base := base) A.D_out_of_range 
  have c_too_many_minutes := ok_too_many_minutes (P := P) (w := w) (base := base) A.D_too_many_minutes 
  have c_none_found := ok_none_found (P := P) (w := w) (base := base) A.D_none_found 
  have c_arrivals_between := ok_arrivals_between (P := P) (w := w) (base := base) A.T A.D_arrivals_between 
  have c_schedule_length := ok_schedule_length (P := P) (w := w) (base := base) A.T A.D_schedule_length 
  have c_counted := ok_counted (P := P) (w := w) (base := base) A.T A.D_counted 
  have c_get_state := ok_get_state (P := P) (w := w) (base := base) A.T A.D_get_state 
  have c_has_row := ok_has_row (P := P) (w := w) (base := base) A.T A.D_has_row 
  have c_Plannerd_initd := ok_planner (P := P) (w := w) (base := base) A.T A.D_Plannerd_initd 
  have c_Planner_has_minute := ok_has_minute (P := P) (w := w) (base := base) A.T A.D_Planner_has_minute 
  have c_Sessiond_initd := ok_session (P := P) (w := w) (base := base) A.T A.D_Sessiond_initd 
  have c_add_minute := ok_add_minute (P := P) (w := w) (base := base) A.T A.D_add_minute c_arrivals_allowed c_out_of_range c_too_many_minutes
  have c_set_arrivals := ok_set_arrivals (P := P) (w := w) (base := base) A.T A.D_set_arrivals c_Planner_has_minute c_arrivals_allowed c_out_of_range c_no_such_minute
  have c_remove_last_minute := ok_remove_last_minute (P := P) (w := w) (base := base) A.T A.D_remove_last_minute c_no_minutes
  have c_set_per_gate := ok_set_per_gate (P := P) (w := w) (base := base) A.T A.D_set_per_gate c_per_gate_allowed c_out_of_range
  have c_set_max_gates := ok_set_max_gates (P := P) (w := w) (base := base) A.T A.D_set_max_gates c_max_gates_allowed c_out_of_range
  have c_set_max_wait := ok_set_max_wait (P := P) (w := w) (base := base) A.T A.D_set_max_wait c_max_wait_allowed c_out_of_range
  have c_is_infeasible := ok_is_infeasible (P := P) (w := w) (base := base) A.T A.D_is_infeasible c_arrivals_between
  have c_gate_minutes_needed := ok_gate_minutes_needed (P := P) (w := w) (base := base) A.T A.D_gate_minutes_needed c_arrivals_between
  have c_arrived_by := ok_arrived_by (P := P) (w := w) (base := base) A.T A.D_arrived_by c_arrivals_between
  have c_list_arrivals := ok_list_arrivals (P := P) (w := w) (base := base) A.T A.D_list_arrivals c_counted
  have c_total_arrivals := ok_total_arrivals (P := P) (w := w) (base := base) A.T A.D_total_arrivals c_Planner_has_minute c_no_such_minute c_arrivals_between
  have c_has_form := ok_has_form (P := P) (w := w) (base := base) A.T A.D_has_form c_schedule_length c_gates_allowed
  have c_arguments_start := ok_arguments_start (P := P) (w := w) (base := base) A.T A.D_arguments_start c_has_row
  have c_argument_count := ok_argument_count (P := P) (w := w) (base := base) A.T A.D_argument_count c_has_row
  have c_earliest_infeasible_interval := ok_earliest_infeasible_interval (P := P) (w := w) (base := base) A.T A.D_earliest_infeasible_interval c_is_infeasible
  have c_fewest_gates_next := ok_fewest_gates_next (P := P) (w := w) (base := base) A.T A.D_fewest_gates_next c_gate_minutes_needed
  have c_people_admitted := ok_people_admitted (P := P) (w := w) (base := base) A.T A.D_people_admitted c_arrived_by
  have c_minute_of_admission := ok_minute_of_admission (P := P) (w := w) (base := base) A.T A.D_minute_of_admission c_arrived_by
  have c_another_like := ok_another_like (P := P) (w := w) (base := base) A.T A.D_another_like c_Plannerd_initd
  have c_change := ok_change (P := P) (w := w) (base := base) A.T A.D_change c_add_minute c_set_arrivals c_remove_last_minute c_set_per_gate c_set_max_gates c_set_max_wait
  have c_add_up := ok_add_up (P := P) (w := w) (base := base) A.T A.D_add_up c_total_arrivals c_get_state
  have c_Session_create := ok_create (P := P) (w := w) (base := base) A.T A.D_Session_create c_per_gate_allowed c_max_gates_allowed c_max_wait_allowed c_out_of_range c_Plannerd_initd
  have c_has_feasible_schedule := ok_has_feasible_schedule (P := P) (w := w) (base := base) A.T A.D_has_feasible_schedule c_earliest_infeasible_interval
  have c_find_best_schedule := ok_find_best_schedule (P := P) (w := w) (base := base) A.T A.D_find_best_schedule c_schedule_length c_fewest_gates_next
  have c_people_waiting := ok_people_waiting (P := P) (w := w) (base := base) A.T A.D_people_waiting c_arrived_by c_people_admitted
  have c_longest_waiting_time := ok_longest_waiting_time (P := P) (w := w) (base := base) A.T A.D_longest_waiting_time c_people_admitted c_minute_of_admission
  have c_infeasible_interval := ok_infeasible_interval (P := P) (w := w) (base := base) A.T A.D_infeasible_interval c_none_found c_earliest_infeasible_interval c_arrivals_between
  have c_admitted := ok_admitted (P := P) (w := w) (base := base) A.T A.D_admitted c_has_form c_out_of_range c_counted c_people_admitted
  have c_with_max_gates := ok_with_max_gates (P := P) (w := w) (base := base) A.T A.D_with_max_gates c_another_like
  have c_with_max_wait := ok_with_max_wait (P := P) (w := w) (base := base) A.T A.D_with_max_wait c_another_like
  have c_with_arrivals := ok_with_arrivals (P := P) (w := w) (base := base) A.T A.D_with_arrivals c_another_like
  have c_best_schedule := ok_best_schedule (P := P) (w := w) (base := base) A.T A.D_best_schedule c_counted c_none_found c_has_feasible_schedule c_find_best_schedule
  have c_min_gate_minutes := ok_min_gate_minutes (P := P) (w := w) (base := base) A.T A.D_min_gate_minutes c_none_found c_has_feasible_schedule c_find_best_schedule
  have c_is_possible := ok_is_possible (P := P) (w := w) (base := base) A.T A.D_is_possible c_has_feasible_schedule
  have c_is_feasible := ok_is_feasible (P := P) (w := w) (base := base) A.T A.D_is_feasible c_has_form c_out_of_range c_longest_waiting_time
  have c_queue_lengths := ok_queue_lengths (P := P) (w := w) (base := base) A.T A.D_queue_lengths c_has_form c_out_of_range c_counted c_people_waiting
  have c_longest_wait := ok_longest_wait (P := P) (w := w) (base := base) A.T A.D_longest_wait c_has_form c_out_of_range c_none_found c_longest_waiting_time
  have c_min_max_gates := ok_min_max_gates (P := P) (w := w) (base := base) A.T A.D_min_max_gates c_none_found c_has_feasible_schedule c_with_max_gates
  have c_min_max_wait := ok_min_max_wait (P := P) (w := w) (base := base) A.T A.D_min_max_wait c_none_found c_has_feasible_schedule c_with_max_wait
  have c_max_arrivals := ok_max_arrivals (P := P) (w := w) (base := base) A.T A.D_max_arrivals c_Planner_has_minute c_no_such_minute c_none_found c_has_feasible_schedule c_with_arrivals
  have c_gate_minutes_if_arrivals := ok_gate_minutes_if_arrivals (P := P) (w := w) (base := base) A.T A.D_gate_minutes_if_arrivals c_Planner_has_minute c_no_such_minute c_out_of_range c_arrivals_allowed c_min_gate_minutes c_with_arrivals
  have c_gate_minutes_if_max_wait := ok_gate_minutes_if_max_wait (P := P) (w := w) (base := base) A.T A.D_gate_minutes_if_max_wait c_out_of_range c_max_wait_allowed c_min_gate_minutes c_with_max_wait
  have c_query := ok_query (P := P) (w := w) (base := base) A.T A.D_query c_list_arrivals c_best_schedule c_min_gate_minutes c_is_possible c_infeasible_interval
  have c_evaluate := ok_evaluate (P := P) (w := w) (base := base) A.T A.D_evaluate c_is_feasible c_admitted c_queue_lengths c_longest_wait
  have c_ask_what_if := ok_ask_what_if (P := P) (w := w) (base := base) A.T A.D_ask_what_if c_min_max_gates c_min_max_wait c_gate_minutes_if_arrivals c_gate_minutes_if_max_wait c_max_arrivals
  have c_perform := ok_perform (P := P) (w := w) (base := base) A.T A.D_perform c_Session_create c_no_planner c_change c_query c_evaluate c_ask_what_if c_add_up
  exact ok_answers A.T F c_Sessiond_initd c_arguments_start c_argument_count c_perform
end GW
set_option Elab.async false
set_option linter.all false
open PySem PySem.W PyProof.Rows
set_option maxRecDepth 100000 in
set_option maxHeartbeats 16000000 in
theorem PySem.Challenge.cw_gatehours_s01_answers_holds : PySem.Challenge.rw_gatehours_s01_answers.Holds := by
  w_on; k_headS; (case hw => exact ⟨[.list [.int 22]], by decide +kernel, by decide +kernel⟩)
  k_fillS
  refine L2.walk_specK (r := PySem.Challenge.rw_gatehours_s01_answers) (k := 9) (CX := L2.CX0) (ps := ["calls"]) (sp := GW.spAns) (by decide +kernel) rfl rfl ⟨rfl, by decide, by decide⟩ (fun w h Y => PySem.W.kIn_of Y) ?F ?S (fun _ _ _ _ z => z)
  case F =>
    intro w mg fa h Y KX G hmg
    refine' GW.use (GW.cls_mk (x := "Planner") KX G ?a) fun nmPlanner => ?_
    (case a => k_is)
    refine' GW.use (GW.kl_mk KX nmPlanner ?pg ?hd ?po ?sa ?mk ?kc) fun klPlanner => ?_
    (case pg => k_is); (case hd => k_is); (case po => k_is); (case sa => k_is); (case mk => k_is); (case kc => k_is)
    refine' GW.use (GW.na_mk (f := "arrivals") KX nmPlanner ?n) fun na_arrivals => ?_
    (case n => k_is)
    refine' GW.use (GW.na_mk (f := "max_gates") KX nmPlanner ?n) fun na_max_gates => ?_
    (case n => k_is)
    refine' GW.use (GW.na_mk (f := "max_wait") KX nmPlanner ?n) fun na_max_wait => ?_
    (case n => k_is)
    refine' GW.use (GW.na_mk (f := "per_gate") KX nmPlanner ?n) fun na_per_gate => ?_
    (case n => k_is)
    refine' GW.use (GW.cls_mk (x := "Session") KX G ?a) fun nmSession => ?_
    (case a => k_is)
    refine' GW.use (GW.kl_mk KX nmSession ?pg ?hd ?po ?sa ?mk ?kc) fun klSession => ?_
    (case pg => k_is); (case hd => k_is); (case po => k_is); (case sa => k_is); (case mk => k_is); (case kc => k_is)
    refine' GW.use (GW.na_mk (f := "planner") KX nmSession ?n) fun na_planner => ?_
    (case n => k_is)
    refine' GW.use (GW.bl_mk (n := "len") KX G ?a) fun b_len => ?_
    (case a => k_is)
    refine' GW.use (GW.bl_mk (n := "sum") KX G ?a) fun b_sum => ?_
    (case a => k_is)
    refine' GW.use (GW.bl_mk (n := "max") KX G ?a) fun b_max => ?_
    (case a => k_is)
    refine' GW.use (GW.bl_mk (n := "min") KX G ?a) fun b_min => ?_
    (case a => k_is)
    refine' GW.use (GW.bl_mk (n := "range") KX G ?a) fun b_range => ?_
    (case a => k_is)
    refine' GW.use (GW.bl_mk (n := "list") KX G ?a) fun b_list => ?_
    (case a => k_is)
    refine' GW.use (GW.bl_mk (n := "all") KX G ?a) fun b_all => ?_
    (case a => k_is)
    refine' GW.use (GW.gi_mk (x := "MOST_PER_GATE") (n := 9) KX G ?a) fun g_MOST_PER_GATE => ?_
    (case a => k_is)
    refine' GW.use (GW.gi_mk (x := "MOST_GATES") (n := 6) KX G ?a) fun g_MOST_GATES => ?_
    (case a => k_is)
    refine' GW.use (GW.gi_mk (x := "MOST_WAIT") (n := 6) KX G ?a) fun g_MOST_WAIT => ?_
    (case a => k_is)
    refine' GW.use (GW.gi_mk (x := "MOST_ARRIVALS") (n := 40) KX G ?a) fun g_MOST_ARRIVALS => ?_
    (case a => k_is)
    refine' GW.use (GW.gi_mk (x := "MOST_MINUTES") (n := 10) KX G ?a) fun g_MOST_MINUTES => ?_
    (case a => k_is)
    refine' GW.use (GW.gi_mk (x := "MOST_IN_SCHEDULE") (n := 9) KX G ?a) fun g_MOST_IN_SCHEDULE => ?_
    (case a => k_is)
    refine' GW.use (GW.cnt_mk (x := "ARGUMENT_COUNTS") KX G ?a ?l) fun g_ARGUMENT_COUNTS => ?_
    (case a => k_is); (case l => k_is)
    refine' GW.use (GW.gi_mk (x := "FIRST_QUERY") (n := 7) KX G ?a) fun g_FIRST_QUERY => ?_
    (case a => k_is)
    refine' GW.use (GW.gi_mk (x := "FIRST_EVALUATION") (n := 12) KX G ?a) fun g_FIRST_EVALUATION => ?_
    (case a => k_is)
    refine' GW.use (GW.gi_mk (x := "FIRST_WHAT_IF") (n := 16) KX G ?a) fun g_FIRST_WHAT_IF => ?_
    (case a => k_is)
    refine' GW.use (GW.gi_mk (x := "FIRST_TOTAL") (n := 21) KX G ?a) fun g_FIRST_TOTAL => ?_
    (case a => k_is)
    refine' GW.use (GW.df_mk (x := "per_gate_allowed") (ps := ["people"]) (st := GW.s_per_gate_allowed) KX G ?a ?l ?c ?k GW.bi_per_gate_allowed) fun D_per_gate_allowed => ?_
    (case a => k_is); (case l => k_is); (case c => k_is); (case k => k_is)
    refine' GW.use (GW.df_mk (x := "max_gates_allowed") (ps := ["gates"]) (st := GW.s_max_gates_allowed) KX G ?a ?l ?c ?k GW.bi_max_gates_allowed) fun D_max_gates_allowed => ?_
    (case a => k_is); (case l => k_is); (case c => k_is); (case k => k_is)
    refine' GW.use (GW.df_mk (x := "max_wait_allowed") (ps := ["minutes"]) (st := GW.s_max_wait_allowed) KX G ?a ?l ?c ?k GW.bi_max_wait_allowed) fun D_max_wait_allowed => ?_
    (case a => k_is); (case l => k_is); (case c => k_is); (case k => k_is)
    refine' GW.use (GW.df_mk (x := "arrivals_allowed") (ps := ["people"]) (st := GW.s_arrivals_allowed) KX G ?a ?l ?c ?k GW.bi_arrivals_allowed) fun D_arrivals_allowed => ?_
    (case a => k_is); (case l => k_is); (case c => k_is); (case k => k_is)
    refine' GW.use (GW.df_mk (x := "gates_allowed") (ps := ["gates"]) (st := GW.s_gates_allowed) KX G ?a ?l ?c ?k GW.bi_gates_allowed) fun D_gates_allowed => ?_
    (case a => k_is); (case l => k_is); (case c => k_is); (case k => k_is)
    refine' GW.use (GW.df_mk (x := "no_planner") (ps := []) (st := GW.s_no_planner) KX G ?a ?l ?c ?k GW.bi_no_planner) fun D_no_planner => ?_
    (case a => k_is); (case l => k_is); (case c => k_is); (case k => k_is)
    refine' GW.use (GW.df_mk (x := "no_such_minute") (ps := []) (st := GW.s_no_such_minute) KX G ?a ?l ?c ?k GW.bi_no_such_minute) fun D_no_such_minute => ?_
    (case a => k_is); (case l => k_is); (case c => k_is); (case k => k_is)
    refine' GW.use (GW.df_mk (x := "no_minutes") (ps := []) (st := GW.s_no_minutes) KX G ?a ?l ?c ?k GW.bi_no_minutes) fun D_no_minutes => ?_
    (case a => k_is); (case l => k_is); (case c => k_is); (case k => k_is)
    refine' GW.use (GW.df_mk (x := "out_of_range") (ps := []) (st := GW.s_out_of_range) KX G ?a ?l ?c ?k GW.bi_out_of_range) fun D_out_of_range => ?_
    (case a => k_is); (case l => k_is); (case c => k_is); (case k => k_is)
    refine' GW.use (GW.df_mk (x := "too_many_minutes") (ps := []) (st := GW.s_too_many_minutes) KX G ?a ?l ?c ?k GW.bi_too_many_minutes) fun D_too_many_minutes => ?_
    (case a => k_is); (case l => k_is); (case c => k_is); (case k => k_is)
    refine' GW.use (GW.df_mk (x := "none_found") (ps := []) (st := GW.s_none_found) KX G ?a ?l ?c ?k GW.bi_none_found) fun D_none_found => ?_
    (case a => k_is); (case l => k_is); (case c => k_is); (case k => k_is)
    refine' GW.use (GW.df_mk (x := "add_minute") (ps := ["planner", "arrivals"]) (st := GW.s_add_minute) KX G ?a ?l ?c ?k GW.bi_add_minute) fun D_add_minute => ?_
    (case a => k_is); (case l => k_is); (case c => k_is); (case k => k_is)
    refine' GW.use (GW.df_mk (x := "set_arrivals") (ps := ["planner", "minute", "arrivals"]) (st := GW.s_set_arrivals) KX G ?a ?l ?c ?k GW.bi_set_arrivals) fun D_set_arrivals => ?_
    (case a => k_is); (case l => k_is); (case c => k_is); (case k => k_is)
    refine' GW.use (GW.df_mk (x := "remove_last_minute") (ps := ["planner"]) (st := GW.s_remove_last_minute) KX G ?a ?l ?c ?k GW.bi_remove_last_minute) fun D_remove_last_minute => ?_
    (case a => k_is); (case l => k_is); (case c => k_is); (case k => k_is)
    refine' GW.use (GW.df_mk (x := "set_per_gate") (ps := ["planner", "people"]) (st := GW.s_set_per_gate) KX G ?a ?l ?c ?k GW.bi_set_per_gate) fun D_set_per_gate => ?_
    (case a => k_is); (case l => k_is); (case c => k_is); (case k => k_is)
    refine' GW.use (GW.df_mk (x := "set_max_gates") (ps := ["planner", "gates"]) (st := GW.s_set_max_gates) KX G ?a ?l ?c ?k GW.bi_set_max_gates) fun D_set_max_gates => ?_
    (case a => k_is); (case l => k_is); (case c => k_is); (case k => k_is)
    refine' GW.use (GW.df_mk (x := "set_max_wait") (ps := ["planner", "minutes"]) (st := GW.s_set_max_wait) KX G ?a ?l ?c ?k GW.bi_set_max_wait) fun D_set_max_wait => ?_
    (case a => k_is); (case l => k_is); (case c => k_is); (case k => k_is)
    refine' GW.use (GW.df_mk (x := "arrivals_between") (ps := ["planner", "first", "last"]) (st := GW.s_arrivals_between) KX G ?a ?l ?c ?k GW.bi_arrivals_between) fun D_arrivals_between => ?_
    (case a => k_is); (case l => k_is); (case c => k_is); (case k => k_is)
    refine' GW.use (GW.df_mk (x := "is_infeasible") (ps := ["planner", "first", "last"]) (st := GW.s_is_infeasible) KX G ?a ?l ?c ?k GW.bi_is_infeasible) fun D_is_infeasible => ?_
    (case a => k_is); (case l => k_is); (case c => k_is); (case k => k_is)
    refine' GW.use (GW.df_mk (x := "earliest_infeasible_interval") (ps := ["planner"]) (st := GW.s_earliest_infeasible_interval) KX G ?a ?l ?c ?k GW.bi_earliest_infeasible_interval) fun D_earliest_infeasible_interval => ?_
    (case a => k_is); (case l => k_is); (case c => k_is); (case k => k_is)
    refine' GW.use (GW.df_mk (x := "has_feasible_schedule") (ps := ["planner"]) (st := GW.s_has_feasible_schedule) KX G ?a ?l ?c ?k GW.bi_has_feasible_schedule) fun D_has_feasible_schedule => ?_
    (case a => k_is); (case l => k_is); (case c => k_is); (case k => k_is)
    refine' GW.use (GW.df_mk (x := "schedule_length") (ps := ["planner"]) (st := GW.s_schedule_length) KX G ?a ?l ?c ?k GW.bi_schedule_length) fun D_schedule_length => ?_
    (case a => k_is); (case l => k_is); (case c => k_is); (case k => k_is)
    refine' GW.use (GW.df_mk (x := "gate_minutes_needed") (ps := ["planner", "first", "last"]) (st := GW.s_gate_minutes_needed) KX G ?a ?l ?c ?k GW.bi_gate_minutes_needed) fun D_gate_minutes_needed => ?_
    (case a => k_is); (case l => k_is); (case c => k_is); (case k => k_is)
    refine' GW.use (GW.df_mk (x := "fewest_gates_next") (ps := ["planner", "gates"]) (st := GW.s_fewest_gates_next) KX G ?a ?l ?c ?k GW.bi_fewest_gates_next) fun D_fewest_gates_next => ?_
    (case a => k_is); (case l => k_is); (case c => k_is); (case k => k_is)
    refine' GW.use (GW.df_mk (x := "find_best_schedule") (ps := ["planner"]) (st := GW.s_find_best_schedule) KX G ?a ?l ?c ?k GW.bi_find_best_schedule) fun D_find_best_schedule => ?_
    (case a => k_is); (case l => k_is); (case c => k_is); (case k => k_is)
    refine' GW.use (GW.df_mk (x := "arrived_by") (ps := ["planner", "minute"]) (st := GW.s_arrived_by) KX G ?a ?l ?c ?k GW.bi_arrived_by) fun D_arrived_by => ?_
    (case a => k_is); (case l => k_is); (case c => k_is); (case k => k_is)
    refine' GW.use (GW.df_mk (x := "people_admitted") (ps := ["planner", "schedule"]) (st := GW.s_people_admitted) KX G ?a ?l ?c ?k GW.bi_people_admitted) fun D_people_admitted => ?_
    (case a => k_is); (case l => k_is); (case c => k_is); (case k => k_is)
    refine' GW.use (GW.df_mk (x := "people_waiting") (ps := ["planner", "schedule"]) (st := GW.s_people_waiting) KX G ?a ?l ?c ?k GW.bi_people_waiting) fun D_people_waiting => ?_
    (case a => k_is); (case l => k_is); (case c => k_is); (case k => k_is)
    refine' GW.use (GW.df_mk (x := "minute_of_admission") (ps := ["planner", "people", "minute"]) (st := GW.s_minute_of_admission) KX G ?a ?l ?c ?k GW.bi_minute_of_admission) fun D_minute_of_admission => ?_
    (case a => k_is); (case l => k_is); (case c => k_is); (case k => k_is)
    refine' GW.use (GW.df_mk (x := "longest_waiting_time") (ps := ["planner", "schedule"]) (st := GW.s_longest_waiting_time) KX G ?a ?l ?c ?k GW.bi_longest_waiting_time) fun D_longest_waiting_time => ?_
    (case a => k_is); (case l => k_is); (case c => k_is); (case k => k_is)
    refine' GW.use (GW.df_mk (x := "counted") (ps := ["numbers"]) (st := GW.s_counted) KX G ?a ?l ?c ?k GW.bi_counted) fun D_counted => ?_
    (case a => k_is); (case l => k_is); (case c => k_is); (case k => k_is)
    refine' GW.use (GW.df_mk (x := "list_arrivals") (ps := ["planner"]) (st := GW.s_list_arrivals) KX G ?a ?l ?c ?k GW.bi_list_arrivals) fun D_list_arrivals => ?_
    (case a => k_is); (case l => k_is); (case c => k_is); (case k => k_is)
    refine' GW.use (GW.df_mk (x := "best_schedule") (ps := ["planner"]) (st := GW.s_best_schedule) KX G ?a ?l ?c ?k GW.bi_best_schedule) fun D_best_schedule => ?_
    (case a => k_is); (case l => k_is); (case c => k_is); (case k => k_is)
    refine' GW.use (GW.df_mk (x := "min_gate_minutes") (ps := ["planner"]) (st := GW.s_min_gate_minutes) KX G ?a ?l ?c ?k GW.bi_min_gate_minutes) fun D_min_gate_minutes => ?_
    (case a => k_is); (case l => k_is); (case c => k_is); (case k => k_is)
    refine' GW.use (GW.df_mk (x := "is_possible") (ps := ["planner"]) (st := GW.s_is_possible) KX G ?a ?l ?c ?k GW.bi_is_possible) fun D_is_possible => ?_
    (case a => k_is); (case l => k_is); (case c => k_is); (case k => k_is)
    refine' GW.use (GW.df_mk (x := "infeasible_interval") (ps := ["planner"]) (st := GW.s_infeasible_interval) KX G ?a ?l ?c ?k GW.bi_infeasible_interval) fun D_infeasible_interval => ?_
    (case a => k_is); (case l => k_is); (case c => k_is); (case k => k_is)
    refine' GW.use (GW.df_mk (x := "total_arrivals") (ps := ["planner", "first", "last"]) (st := GW.s_total_arrivals) KX G ?a ?l ?c ?k GW.bi_total_arrivals) fun D_total_arrivals => ?_
    (case a => k_is); (case l => k_is); (case c => k_is); (case k => k_is)
    refine' GW.use (GW.df_mk (x := "get_state") (ps := ["planner"]) (st := GW.s_get_state) KX G ?a ?l ?c ?k GW.bi_get_state) fun D_get_state => ?_
    (case a => k_is); (case l => k_is); (case c => k_is); (case k => k_is)
    refine' GW.use (GW.df_mk (x := "has_form") (ps := ["planner", "schedule"]) (st := GW.s_has_form) KX G ?a ?l ?c ?k GW.bi_has_form) fun D_has_form => ?_
    (case a => k_is); (case l => k_is); (case c => k_is); (case k => k_is)
    refine' GW.use (GW.df_mk (x := "is_feasible") (ps := ["planner", "schedule"]) (st := GW.s_is_feasible) KX G ?a ?l ?c ?k GW.bi_is_feasible) fun D_is_feasible => ?_
    (case a => k_is); (case l => k_is); (case c => k_is); (case k => k_is)
    refine' GW.use (GW.df_mk (x := "admitted") (ps := ["planner", "schedule"]) (st := GW.s_admitted) KX G ?a ?l ?c ?k GW.bi_admitted) fun D_admitted => ?_
    (case a => k_is); (case l => k_is); (case c => k_is); (case k => k_is)
    refine' GW.use (GW.df_mk (x := "queue_lengths") (ps := ["planner", "schedule"]) (st := GW.s_queue_lengths) KX G ?a ?l ?c ?k GW.bi_queue_lengths) fun D_queue_lengths => ?_
    (case a => k_is); (case l => k_is); (case c => k_is); (case k => k_is)
    refine' GW.use (GW.df_mk (x := "longest_wait") (ps := ["planner", "schedule"]) (st := GW.s_longest_wait) KX G ?a ?l ?c ?k GW.bi_longest_wait) fun D_longest_wait => ?_
    (case a => k_is); (case l => k_is); (case c => k_is); (case k => k_is)
    refine' GW.use (GW.df_mk (x := "another_like") (ps := ["planner"]) (st := GW.s_another_like) KX G ?a ?l ?c ?k GW.bi_another_like) fun D_another_like => ?_
    (case a => k_is); (case l => k_is); (case c => k_is); (case k => k_is)
    refine' GW.use (GW.df_mk (x := "with_max_gates") (ps := ["planner", "gates"]) (st := GW.s_with_max_gates) KX G ?a ?l ?c ?k GW.bi_with_max_gates) fun D_with_max_gates => ?_
    (case a => k_is); (case l => k_is); (case c => k_is); (case k => k_is)
    refine' GW.use (GW.df_mk (x := "with_max_wait") (ps := ["planner", "minutes"]) (st := GW.s_with_max_wait) KX G ?a ?l ?c ?k GW.bi_with_max_wait) fun D_with_max_wait => ?_
    (case a => k_is); (case l => k_is); (case c => k_is); (case k => k_is)
    refine' GW.use (GW.df_mk (x := "with_arrivals") (ps := ["planner", "minute", "people"]) (st := GW.s_with_arrivals) KX G ?a ?l ?c ?k GW.bi_with_arrivals) fun D_with_arrivals => ?_
    (case a => k_is); (case l => k_is); (case c => k_is); (case k => k_is)
    refine' GW.use (GW.df_mk (x := "min_max_gates") (ps := ["planner"]) (st := GW.s_min_max_gates) KX G ?a ?l ?c ?k GW.bi_min_max_gates) fun D_min_max_gates => ?_
    (case a => k_is); (case l => k_is); (case c => k_is); (case k => k_is)
    refine' GW.use (GW.df_mk (x := "min_max_wait") (ps := ["planner"]) (st := GW.s_min_max_wait) KX G ?a ?l ?c ?k GW.bi_min_max_wait) fun D_min_max_wait => ?_
    (case a => k_is); (case l => k_is); (case c => k_is); (case k => k_is)
    refine' GW.use (GW.df_mk (x := "gate_minutes_if_arrivals") (ps := ["planner", "minute", "people"]) (st := GW.s_gate_minutes_if_arrivals) KX G ?a ?l ?c ?k GW.bi_gate_minutes_if_arrivals) fun D_gate_minutes_if_arrivals => ?_
    (case a => k_is); (case l => k_is); (case c => k_is); (case k => k_is)
    refine' GW.use (GW.df_mk (x := "gate_minutes_if_max_wait") (ps := ["planner", "minutes"]) (st := GW.s_gate_minutes_if_max_wait) KX G ?a ?l ?c ?k GW.bi_gate_minutes_if_max_wait) fun D_gate_minutes_if_max_wait => ?_
    (case a => k_is); (case l => k_is); (case c => k_is); (case k => k_is)
    refine' GW.use (GW.df_mk (x := "max_arrivals") (ps := ["planner", "minute"]) (st := GW.s_max_arrivals) KX G ?a ?l ?c ?k GW.bi_max_arrivals) fun D_max_arrivals => ?_
    (case a => k_is); (case l => k_is); (case c => k_is); (case k => k_is)
    refine' GW.use (GW.df_mk (x := "change") (ps := ["planner", "number", "arguments"]) (st := GW.s_change) KX G ?a ?l ?c ?k GW.bi_change) fun D_change => ?_
    (case a => k_is); (case l => k_is); (case c => k_is); (case k => k_is)
    refine' GW.use (GW.df_mk (x := "query") (ps := ["planner", "number"]) (st := GW.s_query) KX G ?a ?l ?c ?k GW.bi_query) fun D_query => ?_
    (case a => k_is); (case l => k_is); (case c => k_is); (case k => k_is)
    refine' GW.use (GW.df_mk (x := "evaluate") (ps := ["planner", "number", "schedule"]) (st := GW.s_evaluate) KX G ?a ?l ?c ?k GW.bi_evaluate) fun D_evaluate => ?_
    (case a => k_is); (case l => k_is); (case c => k_is); (case k => k_is)
    refine' GW.use (GW.df_mk (x := "ask_what_if") (ps := ["planner", "number", "arguments"]) (st := GW.s_ask_what_if) KX G ?a ?l ?c ?k GW.bi_ask_what_if) fun D_ask_what_if => ?_
    (case a => k_is); (case l => k_is); (case c => k_is); (case k => k_is)
    refine' GW.use (GW.df_mk (x := "add_up") (ps := ["planner", "number", "arguments"]) (st := GW.s_add_up) KX G ?a ?l ?c ?k GW.bi_add_up) fun D_add_up => ?_
    (case a => k_is); (case l => k_is); (case c => k_is); (case k => k_is)
    refine' GW.use (GW.df_mk (x := "perform") (ps := ["session", "number", "arguments"]) (st := GW.s_perform) KX G ?a ?l ?c ?k GW.bi_perform) fun D_perform => ?_
    (case a => k_is); (case l => k_is); (case c => k_is); (case k => k_is)
    refine' GW.use (GW.df_mk (x := "has_row") (ps := ["number"]) (st := GW.s_has_row) KX G ?a ?l ?c ?k GW.bi_has_row) fun D_has_row => ?_
    (case a => k_is); (case l => k_is); (case c => k_is); (case k => k_is)
    refine' GW.use (GW.df_mk (x := "arguments_start") (ps := ["calls", "place"]) (st := GW.s_arguments_start) KX G ?a ?l ?c ?k GW.bi_arguments_start) fun D_arguments_start => ?_
    (case a => k_is); (case l => k_is); (case c => k_is); (case k => k_is)
    refine' GW.use (GW.df_mk (x := "argument_count") (ps := ["calls", "place"]) (st := GW.s_argument_count) KX G ?a ?l ?c ?k GW.bi_argument_count) fun D_argument_count => ?_
    (case a => k_is); (case l => k_is); (case c => k_is); (case k => k_is)
    refine' GW.use (GW.df_mk (x := "answers") (ps := ["calls"]) (st := GW.s_answers) KX G ?a ?l ?c ?k GW.bi_answers) fun D_answers => ?_
    (case a => k_is); (case l => k_is); (case c => k_is); (case k => k_is)
    refine' GW.use (GW.di_mk (x := "Planner") (qual := "Planner.__init__") (ps := ["self", "per_gate", "max_gates", "max_wait"]) (st := GW.s_Plannerd_initd) KX nmPlanner klPlanner ?a ?i ?l ?c ?k GW.bi_Plannerd_initd) fun D_Plannerd_initd => ?_
    (case a => k_is); (case i => k_is); (case l => k_is); (case c => k_is); (case k => k_is)
    refine' GW.use (GW.dm_mk (m := "has_minute") (qual := "Planner.has_minute") (ps := ["self", "minute"]) (st := GW.s_Planner_has_minute) KX nmPlanner ?a ?i ?l ?c ?k GW.bi_Planner_has_minute) fun D_Planner_has_minute => ?_
    (case a => k_is); (case i => k_is); (case l => k_is); (case c => k_is); (case k => k_is)
    refine' GW.use (GW.di_mk (x := "Session") (qual := "Session.__init__") (ps := ["self"]) (st := GW.s_Sessiond_initd) KX nmSession klSession ?a ?i ?l ?c ?k GW.bi_Sessiond_initd) fun D_Sessiond_initd => ?_
    (case a => k_is); (case i => k_is); (case l => k_is); (case c => k_is); (case k => k_is)
    refine' GW.use (GW.dm_mk (m := "create") (qual := "Session.create") (ps := ["self", "per_gate", "max_gates", "max_wait"]) (st := GW.s_Session_create) KX nmSession ?a ?i ?l ?c ?k GW.bi_Session_create) fun D_Session_create => ?_
    (case a => k_is); (case i => k_is); (case l => k_is); (case c => k_is); (case k => k_is)
    exact GW.all_of { T := { clP := klPlanner.cl, clS := klSession.cl, aPg := na_per_gate, aMg := na_max_gates, aMw := na_max_wait, aAr := na_arrivals, aPl := na_planner, b_len := b_len, b_sum := b_sum, b_max := b_max, b_min := b_min, b_range := b_range, b_list := b_list, b_all := b_all, g_MOST_PER_GATE := g_MOST_PER_GATE, g_MOST_GATES := g_MOST_GATES, g_MOST_WAIT := g_MOST_WAIT, g_MOST_ARRIVALS := g_MOST_ARRIVALS, g_MOST_MINUTES := g_MOST_MINUTES, g_MOST_IN_SCHEDULE := g_MOST_IN_SCHEDULE, g_COUNTS := g_ARGUMENT_COUNTS, g_FIRST_QUERY := g_FIRST_QUERY, g_FIRST_EVALUATION := g_FIRST_EVALUATION, g_FIRST_WHAT_IF := g_FIRST_WHAT_IF, g_FIRST_TOTAL := g_FIRST_TOTAL }, D_per_gate_allowed := D_per_gate_allowed, D_max_gates_allowed := D_max_gates_allowed, D_max_wait_allowed := D_max_wait_allowed, D_arrivals_allowed := D_arrivals_allowed, D_gates_allowed := D_gates_allowed, D_no_planner := D_no_planner, D_no_such_minute := D_no_such_minute, D_no_minutes := D_no_minutes, D_out_of_range := D_out_of_range, D_too_many_minutes := D_too_many_minutes, D_none_found := D_none_found, D_add_minute := D_add_minute, D_set_arrivals := D_set_arrivals, D_remove_last_minute := D_remove_last_minute, D_set_per_gate := D_set_per_gate, D_set_max_gates := D_set_max_gates, D_set_max_wait := D_set_max_wait, D_arrivals_between := D_arrivals_between, D_is_infeasible := D_is_infeasible, D_earliest_infeasible_interval := D_earliest_infeasible_interval, D_has_feasible_schedule := D_has_feasible_schedule, D_schedule_length := D_schedule_length, D_gate_minutes_needed := D_gate_minutes_needed, D_fewest_gates_next := D_fewest_gates_next, D_find_best_schedule := D_find_best_schedule, D_arrived_by := D_arrived_by, D_people_admitted := D_people_admitted, D_people_waiting := D_people_waiting, D_minute_of_admission := D_minute_of_admission, D_longest_waiting_time := D_longest_waiting_time, D_counted := D_counted, D_list_arrivals := D_list_arrivals, D_best_schedule := D_best_schedule, D_min_gate_minutes := D_min_gate_minutes, D_is_possible := D_is_possible, D_infeasible_interval := D_infeasible_interval, D_total_arrivals := D_total_arrivals, D_get_state := D_get_state, D_has_form := D_has_form, D_is_feasible := D_is_feasible, D_admitted := D_admitted, D_queue_lengths := D_queue_lengths, D_longest_wait := D_longest_wait, D_another_like := D_another_like, D_with_max_gates := D_with_max_gates, D_with_max_wait := D_with_max_wait, D_with_arrivals := D_with_arrivals, D_min_max_gates := D_min_max_gates, D_min_max_wait := D_min_max_wait, D_gate_minutes_if_arrivals := D_gate_minutes_if_arrivals, D_gate_minutes_if_max_wait := D_gate_minutes_if_max_wait, D_max_arrivals := D_max_arrivals, D_change := D_change, D_query := D_query, D_evaluate := D_evaluate, D_ask_what_if := D_ask_what_if, D_add_up := D_add_up, D_perform := D_perform, D_has_row := D_has_row, D_arguments_start := D_arguments_start, D_argument_count := D_argument_count, D_answers := D_answers, D_Plannerd_initd := D_Plannerd_initd, D_Planner_has_minute := D_Planner_has_minute, D_Sessiond_initd := D_Sessiond_initd, D_Session_create := D_Session_create } hmg
  case S =>
    intro K H xs a hO hwi hask hx
    cases hx with
    | cons h1 h2 =>
      cases h2
      cases h1 with
      | lst hs ha =>
        have e := L2.ints_dw a.1 _ ha
        subst e
        have q : ((Codec.inLen 0 30000 a.1 && a.1.all (Codec.inInt 0 4294967295)) && true) = true := hwi
        rw [Bool.and_eq_true, Bool.and_eq_true] at q
        exact ⟨_, a.1, rfl, hs, (Codec.inNat_iff.mp q.1.1).2, hask, fun H' p hp => .lst (L2.SqL.of hp) (L2.dw_ints _)⟩
#print axioms PySem.Challenge.cw_gatehours_s01_answers_holds
