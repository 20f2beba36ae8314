import PyProof.Rows.All
import Wide.All
import OpenK.AllK
import Wide.FinOn
import HandS.ForMost
import PyProof.TupleOfGen
import PyProof.WalksEnum
import PyProof.GenCompT
import HandS.AnyAll
import HandS.Nested
import HandS.SetFor
import HandS.Strs
import KE.KMathG
import PyProof.CallFns
import HandS.Walk
import KE.KEqSeq
import KE.KEqDeep
import PyProof.ZipIter
import PyProof.ListNew
import KE.KItemsList
import HandS.ListItems
import HandS.DictComp
import HandS.Style
import HandS.Flow
import HandS.TupAny
import HandS.Gcd
import HandS.Zip
import KE.GoesEnum
import KE.KDictZip
import PyProof.EnumMake
import HandS.Iter
import KE.KStateDown
import HandS.EndTab
import HandS.HeadWalk
import HandS.HeadEnd
import HandS.Head0
import HandS.Head1
import HandS.Head2
import HandS.Head3
import HandS.HeadHook1
import HandS.HeadHook2
import HandS.HeadHook3
import HandS.HeadHook4
import PySem.Challenge.RW_effectonce_k52_whole_calendars_alike
set_option Elab.async false
set_option linter.all false
set_option maxRecDepth 100000
set_option maxHeartbeats 4000000
/-! calendars: the mathematics -/
namespace Cl
inductive Op where
  | both | common | without
  deriving DecidableEq
def Op.fn : Op → Bool → Bool → Bool
  | .both, a, b => a || b
  | .common, a, b => a && b
  | .without, a, b => a && !b
inductive Cal where
  | every (k s : Int) (e : Option Int)
  | list (ts : List Int)
  | pair (o : Op) (c d : Cal)
  | moved (c : Cal) (n : Int)
def upTo : Option Int → Int → Bool
  | none, _ => true
  | some e, t => decide (t ≤ e)
def Cal.has : Cal → Int → Bool
  | .every k s e, t => decide (s ≤ t) && decide ((t - s) % k = 0) && upTo e t
  | .list ts, t => decide (t ∈ ts)
  | .pair o c d, t => o.fn (c.has t) (d.has t)
  | .moved c n, t => c.has (t - n)
def endOk : Option Int → Prop
  | none => True
  | some e => 0 ≤ e ∧ e ≤ 29
/-- as they are drawn, at most d within one another -/
def Good : Nat → Cal → Prop
  | _, .every k s e => (1 ≤ k ∧ k ≤ 6) ∧ (0 ≤ s ∧ s ≤ 8) ∧ endOk e
  | _, .list ts => (∀ t ∈ ts, 0 ≤ t ∧ t ≤ 29) ∧ ts.length ≤ 10
  | 0, _ => False
  | d + 1, .pair _ c e => Good d c ∧ Good d e
  | d + 1, .moved c n => Good d c ∧ 0 ≤ n ∧ n ≤ 7
theorem Good.up : ∀ {d : Nat} {c : Cal}, Good d c → Good (d + 1) c
  | 0, .every _ _ _, h => h
  | _ + 1, .every _ _ _, h => h
  | 0, .list _, h => h
  | _ + 1, .list _, h => h
  | _ + 1, .pair _ _ _, h => ⟨h.1.up, h.2.up⟩
  | _ + 1, .moved _ _, h => ⟨h.1.up, h.2⟩
theorem Good.le {d e : Nat} {c : Cal} (h : Good d c) (hl : d ≤ e) : Good e c := by
  induction hl with
  | refl => exact h
  | step _ ih => exact ih.up

/-! ### stretches of time -/
def rng (lo hi : Int) : List Int := (List.range (hi - lo).toNat).map fun i => lo + (i : Nat)
theorem rng_len (lo hi : Int) : (rng lo hi).length = (hi - lo).toNat := by simp [rng]
theorem rng_get {lo hi : Int} {i : Nat} (h : i < (hi - lo).toNat) : (rng lo hi)[i]? = some (lo + (i : Nat)) := by simp [rng, h]
theorem mem_rng {lo hi x : Int} : x ∈ rng lo hi ↔ lo ≤ x ∧ x < hi := by
  unfold rng
  rw [List.mem_map]
  constructor
  · rintro ⟨i, hi, rfl⟩
    have := List.mem_range.mp hi
    omega
  · rintro ⟨h1, h2⟩
    exact ⟨(x - lo).toNat, List.mem_range.mpr (by omega), by omega⟩
theorem rng_nil {lo hi : Int} (h : hi ≤ lo) : rng lo hi = [] := by
  unfold rng
  rw [show (hi - lo).toNat = 0 by omega]
  rfl
theorem rng_cons {lo hi : Int} (h : lo < hi) : rng lo hi = lo :: rng (lo + 1) hi := by
  unfold rng
  rw [show (hi - lo).toNat = (hi - (lo + 1)).toNat + 1 by omega, List.range_succ_eq_map, List.map_cons, List.map_map]
  congr 1
  · simp
  · refine List.map_congr_left fun i _ => ?_
    show lo + ((i + 1 : Nat) : Int) = lo + 1 + (i : Nat)
    omega
theorem rng_snoc {lo hi : Int} (h : lo ≤ hi) : rng lo (hi + 1) = rng lo hi ++ [hi] := by
  unfold rng
  rw [show (hi + 1 - lo).toNat = (hi - lo).toNat + 1 by omega, List.range_succ, List.map_append]
  congr 1
  simp
  omega
theorem rng_append {lo mid hi : Int} (h1 : lo ≤ mid) (h2 : mid ≤ hi) : rng lo mid ++ rng mid hi = rng lo hi := by
  obtain ⟨n, hn⟩ : ∃ n : Nat, hi = mid + n := ⟨(hi - mid).toNat, by omega⟩
  subst hn
  clear h2
  induction n with
  | zero => rw [rng_nil (lo := mid) (by simp), List.append_nil]; simp
  | succ n ih =>
    rw [show mid + ((n + 1 : Nat) : Int) = (mid + (n : Nat)) + 1 by omega, rng_snoc (by omega), rng_snoc (by omega), ← ih, List.append_assoc]
def tms (c : Cal) (lo hi : Int) : List Int := (rng lo hi).filter c.has
def mks (c : Cal) (lo hi : Int) : List Bool := (rng lo hi).map c.has
theorem mks_len (c : Cal) (lo hi : Int) : (mks c lo hi).length = (hi - lo).toNat := by simp [mks, rng_len]
theorem mks_get {c : Cal} {lo hi : Int} {i : Nat} (h : i < (hi - lo).toNat) : (mks c lo hi)[i]? = some (c.has (lo + (i : Nat))) := by
  unfold mks
  rw [List.getElem?_map, rng_get h]
  rfl
theorem mem_tms {c : Cal} {lo hi x : Int} : x ∈ tms c lo hi ↔ (lo ≤ x ∧ x < hi) ∧ c.has x = true := by
  unfold tms
  rw [List.mem_filter, mem_rng]
theorem tms_append {c : Cal} {lo mid hi : Int} (h1 : lo ≤ mid) (h2 : mid ≤ hi) : tms c lo mid ++ tms c mid hi = tms c lo hi := by
  unfold tms
  rw [← List.filter_append, rng_append h1 h2]
theorem tms_len_le (c : Cal) (lo hi : Int) : (tms c lo hi).length ≤ (hi - lo).toNat := by
  unfold tms
  exact Nat.le_trans (List.length_filter_le _ _) (by rw [rng_len]; exact Nat.le_refl _)
theorem tms_empty {c : Cal} {lo hi : Int} (h : ∀ t, lo ≤ t → t < hi → c.has t = false) : tms c lo hi = [] := by
  unfold tms
  rw [List.filter_eq_nil_iff]
  intro t ht
  have := mem_rng.mp ht
  rw [h t this.1 this.2]
  exact Bool.false_ne_true
/-- what the generator expression over enumerate(marks) comes to -/
theorem gout_tms (c : Cal) (lo hi : Int) : (((List.range (mks c lo hi).length).filter fun j => (mks c lo hi).getD j false).map fun (j : Nat) => lo + (j : Int)) = tms c lo hi := by
  unfold tms rng
  rw [mks_len, List.filter_map]
  congr 1
  refine List.filter_congr fun j hj => ?_
  have h := List.mem_range.mp hj
  rw [List.getD_eq_getElem?_getD, mks_get h]
  rfl

/-! ### the next time -/
def IsNx (c : Cal) (t : Int) : Option Int → Prop
  | none => ∀ u, t ≤ u → c.has u = false
  | some x => (t ≤ x ∧ c.has x = true) ∧ ∀ u, t ≤ u → u < x → c.has u = false
theorem IsNx.uniq {c : Cal} {t : Int} : ∀ {a b : Option Int}, IsNx c t a → IsNx c t b → a = b
  | none, none, _, _ => rfl
  | none, some x, h, k => absurd k.1.2 (by rw [h x k.1.1]; exact Bool.false_ne_true)
  | some x, none, h, k => absurd h.1.2 (by rw [k x h.1.1]; exact Bool.false_ne_true)
  | some x, some y, h, k => by
    rcases Int.lt_trichotomy x y with e | e | e
    · have := k.2 x h.1.1 e
      rw [h.1.2] at this; cases this
    · rw [e]
    · have := h.2 y k.1.1 e
      rw [k.1.2] at this; cases this
theorem head_tms {c : Cal} {lo hi : Int} : ((tms c lo hi).head? = none ∧ ∀ u, lo ≤ u → u < hi → c.has u = false) ∨ ∃ x, (tms c lo hi).head? = some x ∧ (lo ≤ x ∧ x < hi ∧ c.has x = true) ∧ ∀ u, lo ≤ u → u < x → c.has u = false := by
  obtain ⟨n, hn⟩ : ∃ n : Nat, n = (hi - lo).toNat := ⟨_, rfl⟩
  induction n generalizing lo with
  | zero =>
    refine .inl ⟨?_, fun u h1 h2 => by omega⟩
    unfold tms
    rw [rng_nil (by omega)]
    rfl
  | succ n ih =>
    have hlt : lo < hi := by omega
    unfold tms
    rw [rng_cons hlt]
    cases hb : c.has lo with
    | true =>
      rw [List.filter_cons_of_pos hb]
      exact .inr ⟨lo, rfl, ⟨Int.le_refl _, hlt, hb⟩, fun u h1 h2 => by omega⟩
    | false =>
      rw [List.filter_cons_of_neg (by rw [hb]; exact Bool.false_ne_true)]
      rcases ih (lo := lo + 1) (by omega) with ⟨e, h⟩ | ⟨x, e, ⟨h1, h2, h3⟩, h4⟩
      · refine .inl ⟨e, fun u g1 g2 => ?_⟩
        by_cases z : u = lo
        · rw [z]; exact hb
        · exact h u (by omega) g2
      · refine .inr ⟨x, e, ⟨by omega, h2, h3⟩, fun u g1 g2 => ?_⟩
        by_cases z : u = lo
        · rw [z]; exact hb
        · exact h4 u (by omega) g2

/-! ### what repeats -/
def Per (c : Cal) (n q : Int) : Prop := ∀ t, n ≤ t → c.has (t + q) = c.has t
theorem Per.mul {c : Cal} {n q : Int} (hq : 0 ≤ q) (h : Per c n q) : ∀ (j : Nat) (t : Int), n ≤ t → c.has (t + j * q) = c.has t
  | 0, t, _ => by simp
  | j + 1, t, ht => by
    have e : t + ((j + 1 : Nat) : Int) * q = (t + (j : Nat) * q) + q := by
      rw [show ((j + 1 : Nat) : Int) = (j : Int) + 1 by omega, Int.add_mul, Int.one_mul]; omega
    have hp : 0 ≤ (j : Int) * q := Int.mul_nonneg (by omega) hq
    rw [e, h _ (by omega), h.mul hq j t ht]
theorem Per.dvd {c : Cal} {n q r : Int} (hq : 0 ≤ q) (h : Per c n q) (hr : 0 ≤ r) (hd : q ∣ r) : Per c n r := by
  intro t ht
  obtain ⟨j, rfl⟩ := hd
  by_cases z : q = 0
  · rw [z]; simp
  · have hj : 0 ≤ j := by
      rcases Int.lt_or_le j 0 with g | g
      · exfalso
        have : q * j < 0 := Int.mul_neg_of_pos_of_neg (by omega) g
        omega
      · exact g
    have := h.mul hq j.toNat t ht
    rw [show ((j.toNat : Nat) : Int) = j by omega, Int.mul_comm j q] at this
    exact this
/-- a period that holds far out holds wherever some period holds -/
theorem Per.back {c : Cal} {n p m q : Int} (hp : 1 ≤ p) (h : Per c n p) (k : Per c m q) (hq : 0 ≤ q) : Per c n q := by
  intro t ht
  obtain ⟨j, hj⟩ : ∃ j : Nat, m ≤ t + j * p := by
    refine ⟨(m - t).toNat, ?_⟩
    have : ((m - t).toNat : Int) * 1 ≤ ((m - t).toNat : Int) * p := Int.mul_le_mul_of_nonneg_left hp (by omega)
    omega
  have e1 := h.mul (by omega) j t ht
  have e2 := h.mul (by omega) j (t + q) (by omega)
  rw [← e1, ← e2, show t + q + (j : Int) * p = (t + j * p) + q by omega]
  exact k _ hj
/-- the least period, and where it begins -/
structure Rep (c : Cal) (n q : Int) : Prop where
  q1 : 1 ≤ q
  n0 : 0 ≤ n
  per : Per c n q
  lq : ∀ r, 1 ≤ r → r < q → ∀ m, ¬ Per c m r
  ln : 0 < n → c.has (n - 1 + q) ≠ c.has (n - 1)
theorem Rep.uniq {c : Cal} {n q m p : Int} (h : Rep c n q) (k : Rep c m p) : n = m ∧ q = p := by
  have hq : q = p := by
    rcases Int.lt_trichotomy q p with e | e | e
    · exact absurd h.per (k.lq q h.q1 e n)
    · exact e
    · exact absurd k.per (h.lq p k.q1 e m)
  subst hq
  refine ⟨?_, rfl⟩
  rcases Int.lt_trichotomy n m with e | e | e
  · exact absurd (h.per (m - 1) (by omega)) (k.ln (by have := h.n0; omega))
  · exact e
  · exact absurd (k.per (n - 1) (by omega)) (h.ln (by have := k.n0; omega))
theorem has_far {c : Cal} {n q t : Int} (hq : 1 ≤ q) (h : Per c n q) (ht : n ≤ t) : c.has t = c.has (n + (t - n) % q) := by
  have e : t = (n + (t - n) % q) + ((t - n) / q).toNat * q := by
    have h1 := Int.emod_add_mul_ediv (t - n) q
    have h2 : 0 ≤ (t - n) / q := Int.ediv_nonneg (by omega) (by omega)
    rw [show (((t - n) / q).toNat : Int) = (t - n) / q by omega, Int.mul_comm]
    omega
  have h3 : 0 ≤ (t - n) % q := Int.emod_nonneg _ (by omega)
  have := h.mul (by omega) ((t - n) / q).toNat (n + (t - n) % q) (by omega)
  rw [← this]
  congr 1
/-- if it has a time from t on, it has one soon -/
theorem soon {c : Cal} {n q t : Int} (hq : 1 ≤ q) (h : Per c n q) (W : Int) (hW : max n t + q ≤ W) (none : ∀ u, t ≤ u → u < W → c.has u = false) : ∀ u, t ≤ u → c.has u = false := by
  intro u hu
  by_cases z : u < W
  · exact none u hu z
  · have hM : max n t ≤ u := by omega
    have hP : Per c (max n t) q := fun v hv => h v (by omega)
    rw [has_far hq hP hM]
    have h3 : 0 ≤ (u - max n t) % q := Int.emod_nonneg _ (by omega)
    have h4 : (u - max n t) % q < q := Int.emod_lt_of_pos _ (by omega)
    exact none _ (by omega) (by omega)
theorem nx_of_window {c : Cal} {n q t W : Int} (hq : 1 ≤ q) (h : Per c n q) (hW : max n t + q ≤ W) : IsNx c t (tms c t W).head? := by
  rcases head_tms (c := c) (lo := t) (hi := W) with ⟨e, g⟩ | ⟨x, e, ⟨h1, h2, h3⟩, h4⟩
  · rw [e]; exact soon hq h W hW g
  · rw [e]; exact ⟨⟨h1, h3⟩, h4⟩
/-- the times up to the next one -/
theorem tms_step {c : Cal} {t x : Int} (h0 : 0 ≤ t) (h : IsNx c t (some x)) : tms c 0 t ++ [x] = tms c 0 (x + 1) := by
  rw [← tms_append (c := c) (lo := 0) (mid := t) (hi := x + 1) h0 (by have := h.1.1; omega)]
  congr 1
  rw [← tms_append (c := c) (lo := t) (mid := x) (hi := x + 1) h.1.1 (by omega), tms_empty h.2]
  unfold tms
  rw [rng_cons (by omega), rng_nil (by omega), List.filter_cons_of_pos h.1.2]
  rfl
theorem tms_stop {c : Cal} {t hi : Int} (h0 : 0 ≤ t) (ht : t ≤ hi) (h : ∀ u, t ≤ u → u < hi → c.has u = false) : tms c 0 t = tms c 0 hi := by
  rw [← tms_append (c := c) (lo := 0) (mid := t) (hi := hi) h0 ht, tms_empty h, List.append_nil]

/-! ### where a calendar begins to repeat, by its parts -/
def maxL : List Int → Int
  | [] => -1
  | t :: ts => max t (maxL ts)
theorem maxL_ge : ∀ {ts : List Int} {t : Int}, t ∈ ts → t ≤ maxL ts
  | [], _, h => nomatch h
  | u :: ts, t, h => by
    show t ≤ max u (maxL ts)
    rcases List.mem_cons.mp h with e | e
    · omega
    · have := maxL_ge e; omega
theorem maxL_lo : ∀ ts : List Int, -1 ≤ maxL ts
  | [] => Int.le_refl _
  | u :: ts => by
    have := maxL_lo ts
    show -1 ≤ max u (maxL ts)
    omega
theorem maxL_hi : ∀ {ts : List Int} {m : Int}, -1 ≤ m → (∀ t ∈ ts, t ≤ m) → maxL ts ≤ m
  | [], m, h, _ => h
  | u :: ts, m, h, k => by
    have := maxL_hi h fun t ht => k t (List.mem_cons_of_mem _ ht)
    have := k u List.mem_cons_self
    show max u (maxL ts) ≤ m
    omega
def tl : Cal → Int
  | .every _ s none => s
  | .every _ _ (some e) => e + 1
  | .list ts => maxL ts + 1
  | .pair _ c d => max (tl c) (tl d)
  | .moved c n => tl c + n
theorem tl_b : ∀ {d : Nat} {c : Cal}, Good d c → 0 ≤ tl c ∧ tl c ≤ 30 + 7 * d
  | _, .every k s none, h => by
    obtain ⟨_, h2, _⟩ := (show (1 ≤ k ∧ k ≤ 6) ∧ (0 ≤ s ∧ s ≤ 8) ∧ endOk none by cases ‹Nat› <;> exact h)
    show 0 ≤ s ∧ s ≤ _
    omega
  | _, .every k s (some e), h => by
    obtain ⟨_, h2, h3⟩ := (show (1 ≤ k ∧ k ≤ 6) ∧ (0 ≤ s ∧ s ≤ 8) ∧ endOk (some e) by cases ‹Nat› <;> exact h)
    obtain ⟨h3, h4⟩ := (show 0 ≤ e ∧ e ≤ 29 from h3)
    show 0 ≤ e + 1 ∧ e + 1 ≤ _
    omega
  | _, .list ts, h => by
    obtain ⟨h, _⟩ := (show (∀ t ∈ ts, 0 ≤ t ∧ t ≤ 29) ∧ ts.length ≤ 10 by cases ‹Nat› <;> exact h)
    have h1 := maxL_lo ts
    have h2 := maxL_hi (m := 29) (by omega) fun t ht => (h t ht).2
    show 0 ≤ maxL ts + 1 ∧ maxL ts + 1 ≤ _
    omega
  | 0, .pair _ _ _, h => h.elim
  | 0, .moved _ _, h => h.elim
  | d + 1, .pair _ c e, h => by
    have h1 := tl_b h.1
    have h2 := tl_b h.2
    show 0 ≤ max (tl c) (tl e) ∧ max (tl c) (tl e) ≤ _
    omega
  | d + 1, .moved c n, h => by
    have h1 := tl_b h.1
    have h2 := h.2
    show 0 ≤ tl c + n ∧ tl c + n ≤ _
    omega
theorem dvd60 {k : Int} (h1 : 1 ≤ k) (h6 : k ≤ 6) : k ∣ 60 := by
  have : k = 1 ∨ k = 2 ∨ k = 3 ∨ k = 4 ∨ k = 5 ∨ k = 6 := by omega
  rcases this with rfl | rfl | rfl | rfl | rfl | rfl
  · exact ⟨60, rfl⟩
  · exact ⟨30, rfl⟩
  · exact ⟨20, rfl⟩
  · exact ⟨15, rfl⟩
  · exact ⟨12, rfl⟩
  · exact ⟨10, rfl⟩
theorem every_per {k s q : Int} (h : k ∣ q) (hq : 0 ≤ q) : Per (.every k s none) s q := by
  intro t ht
  obtain ⟨j, rfl⟩ := h
  show (decide (s ≤ t + k * j) && decide ((t + k * j - s) % k = 0) && true) = (decide (s ≤ t) && decide ((t - s) % k = 0) && true)
  rw [show t + k * j - s = (t - s) + k * j by omega, Int.add_mul_emod_self_left, decide_eq_true ht, decide_eq_true (show s ≤ t + k * j by omega)]
theorem every_end {k s e q : Int} (hq : 0 ≤ q) : Per (.every k s (some e)) (e + 1) q := by
  intro t ht
  show (_ && _ && decide (t + q ≤ e)) = (_ && _ && decide (t ≤ e))
  rw [decide_eq_false (show ¬ t + q ≤ e by omega), decide_eq_false (show ¬ t ≤ e by omega), Bool.and_false, Bool.and_false]
theorem list_end {ts : List Int} {m q : Int} (hm : ∀ t ∈ ts, t < m) (hq : 0 ≤ q) : Per (.list ts) m q := by
  intro t ht
  show decide (t + q ∈ ts) = decide (t ∈ ts)
  rw [decide_eq_false (fun z => by have := hm _ z; omega), decide_eq_false (fun z => by have := hm _ z; omega)]
theorem pair_per {o : Op} {c d : Cal} {n q : Int} (h : Per c n q) (k : Per d n q) : Per (.pair o c d) n q := by
  intro t ht
  show o.fn (c.has (t + q)) (d.has (t + q)) = o.fn (c.has t) (d.has t)
  rw [h t ht, k t ht]
theorem moved_per {c : Cal} {m n q : Int} (h : Per c n q) : Per (.moved c m) (n + m) q := by
  intro t ht
  show c.has (t + q - m) = c.has (t - m)
  rw [show t + q - m = (t - m) + q by omega]
  exact h _ (by omega)
theorem Per.mono {c : Cal} {n m q : Int} (h : Per c n q) (hl : n ≤ m) : Per c m q := fun t ht => h t (by omega)
theorem per60 : ∀ {d : Nat} {c : Cal}, Good d c → Per c (tl c) 60
  | _, .every k s none, h => by
    obtain ⟨h1, _, _⟩ := (show (1 ≤ k ∧ k ≤ 6) ∧ (0 ≤ s ∧ s ≤ 8) ∧ endOk none by cases ‹Nat› <;> exact h)
    exact every_per (dvd60 h1.1 h1.2) (by omega)
  | _, .every k s (some e), h => every_end (by omega)
  | _, .list ts, h => list_end (fun t ht => by have := maxL_ge ht; show t < maxL ts + 1; omega) (by omega)
  | 0, .pair _ _ _, h => h.elim
  | 0, .moved _ _, h => h.elim
  | d + 1, .pair _ c e, h => pair_per ((per60 h.1).mono (by show tl c ≤ max (tl c) (tl e); omega)) ((per60 h.2).mono (by show tl e ≤ max (tl c) (tl e); omega))
  | d + 1, .moved c n, h => moved_per (per60 h.1)

/-! ### the leaves, in the order in which the program meets them -/
def leaves : Cal → Int → List (Cal × Int)
  | .every k s e, l => [(.every k s e, l)]
  | .list ts, l => [(.list ts, l)]
  | .pair _ c d, l => leaves d l ++ leaves c l
  | .moved c n, l => leaves c (l + n)
def endW : Option Int → Prop
  | none => True
  | some e => 0 ≤ e ∧ e ≤ 400
def IsLeaf : Cal → Prop
  | .every k s e => (1 ≤ k ∧ k ∣ 60) ∧ (0 ≤ s ∧ s ≤ 400) ∧ endW e
  | .list ts => (∀ t ∈ ts, 0 ≤ t ∧ t ≤ 400) ∧ ts.length ≤ 500
  | _ => False
/-- what the program meets: leaves of some kind, moved not too far -/
def Mild : Cal → Int → Prop
  | .every k s e, l => IsLeaf (.every k s e) ∧ 0 ≤ l ∧ l ≤ 300
  | .list ts, l => IsLeaf (.list ts) ∧ 0 ≤ l ∧ l ≤ 300
  | .pair _ c d, l => Mild c l ∧ Mild d l
  | .moved c n, l => 0 ≤ l ∧ Mild c (l + n) ∧ 0 ≤ n
theorem Mild.b : ∀ {c : Cal} {l : Int}, Mild c l → 0 ≤ l ∧ l ≤ 300
  | .every _ _ _, _, h => h.2
  | .list _, _, h => h.2
  | .pair _ _ _, _, h => h.1.b
  | .moved _ _, _, h => by
    have := h.2.1.b
    have := h.2.2
    exact ⟨h.1, by omega⟩
theorem leaf_every {k s : Int} {e : Option Int} (h : (1 ≤ k ∧ k ≤ 6) ∧ (0 ≤ s ∧ s ≤ 8) ∧ endOk e) : IsLeaf (.every k s e) := by
  refine ⟨⟨h.1.1, ?_⟩, ⟨h.2.1.1, by have := h.2.1.2; omega⟩, ?_⟩
  · have h1 := h.1.1
    have h6 := h.1.2
    have : k = 1 ∨ k = 2 ∨ k = 3 ∨ k = 4 ∨ k = 5 ∨ k = 6 := by omega
    rcases this with rfl | rfl | rfl | rfl | rfl | rfl <;> decide
  · cases e with
    | none => trivial
    | some e =>
      have h3 : 0 ≤ e ∧ e ≤ 29 := h.2.2
      exact ⟨h3.1, by omega⟩
theorem leaf_list {ts : List Int} (h : (∀ t ∈ ts, 0 ≤ t ∧ t ≤ 29) ∧ ts.length ≤ 10) : IsLeaf (.list ts) := ⟨fun t ht => ⟨(h.1 t ht).1, by have := (h.1 t ht).2; omega⟩, by have := h.2; omega⟩
theorem mild_of_good : ∀ {d : Nat} {c : Cal} {l : Int}, Good d c → 0 ≤ l → l + 7 * d ≤ 300 → Mild c l
  | d, .every k s e, l, h, hl, hb => ⟨leaf_every (by cases d <;> exact h), hl, by omega⟩
  | d, .list ts, l, h, hl, hb => ⟨leaf_list (by cases d <;> exact h), hl, by omega⟩
  | 0, .pair _ _ _, _, h, _, _ => h.elim
  | 0, .moved _ _, _, h, _, _ => h.elim
  | d + 1, .pair _ c e, l, h, hl, hb => ⟨mild_of_good h.1 hl (by omega), mild_of_good h.2 hl (by omega)⟩
  | d + 1, .moved c n, l, h, hl, hb => ⟨hl, mild_of_good h.1 (by have := h.2.1; omega) (by have := h.2.2; omega), h.2.1⟩
theorem mild_leaves : ∀ {c : Cal} {l : Int}, Mild c l → ∀ p ∈ leaves c l, IsLeaf p.1 ∧ 0 ≤ p.2 ∧ p.2 ≤ 300
  | .every k s e, l, h, p, hp => by
    rw [show p = (.every k s e, l) from List.mem_singleton.mp hp]
    exact h
  | .list ts, l, h, p, hp => by
    rw [show p = (.list ts, l) from List.mem_singleton.mp hp]
    exact h
  | .pair _ c d, l, h, p, hp => by
    rcases List.mem_append.mp hp with z | z
    · exact mild_leaves h.2 p z
    · exact mild_leaves h.1 p z
  | .moved c n, l, h, p, hp => mild_leaves h.2.1 p hp
/-- the calendar repeats where its leaves do -/
theorem leaves_per : ∀ {c : Cal} {l n q : Int}, (∀ p ∈ leaves c l, Per p.1 (n - p.2) q) → Per c (n - l) q
  | .every k s e, l, n, q, h => h (.every k s e, l) (List.mem_singleton.mpr rfl)
  | .list ts, l, n, q, h => h (.list ts, l) (List.mem_singleton.mpr rfl)
  | .pair _ c d, l, n, q, h => pair_per (leaves_per fun p hp => h p (List.mem_append.mpr (.inr hp))) (leaves_per fun p hp => h p (List.mem_append.mpr (.inl hp)))
  | .moved c m, l, n, q, h => by
    have := moved_per (m := m) (leaves_per (c := c) (l := l + m) (n := n) (q := q) h)
    rw [show n - (l + m) + m = n - l by omega] at this
    exact this
/-- one leaf more -/
def stepNQ (p : Cal × Int) (a : Int × Nat) : Int × Nat := match p.1 with
  | .list ts => ((ts.map fun t => p.2 + t + 1).foldl max a.1, a.2)
  | .every k s none => (max a.1 (p.2 + s), Nat.lcm a.2 k.toNat)
  | .every _ _ (some e) => (max a.1 (p.2 + e + 1), a.2)
  | _ => a
def foldNQ (L : List (Cal × Int)) (a : Int × Nat) : Int × Nat := L.foldl (fun a p => stepNQ p a) a
theorem foldl_max_ge : ∀ (xs : List Int) (a : Int), a ≤ xs.foldl max a ∧ ∀ x ∈ xs, x ≤ xs.foldl max a
  | [], a => ⟨Int.le_refl _, fun _ h => nomatch h⟩
  | x :: xs, a => by
    have h := foldl_max_ge xs (max a x)
    refine ⟨by show a ≤ xs.foldl max (max a x); have := h.1; omega, fun y hy => ?_⟩
    show y ≤ xs.foldl max (max a x)
    rcases List.mem_cons.mp hy with e | e
    · have := h.1; omega
    · exact h.2 y e
theorem foldl_max_le : ∀ (xs : List Int) (a m : Int), a ≤ m → (∀ x ∈ xs, x ≤ m) → xs.foldl max a ≤ m
  | [], a, m, h, _ => h
  | x :: xs, a, m, h, k => foldl_max_le xs (max a x) m (by have := k x List.mem_cons_self; omega) fun y hy => k y (List.mem_cons_of_mem _ hy)
/-- what holds along the fold -/
structure NQ (B : Int) (a : Int × Nat) : Prop where
  n0 : 0 ≤ a.1
  nB : a.1 ≤ B
  q1 : 1 ≤ a.2
  q60 : a.2 ∣ 60
theorem stepNQ_ok {B : Int} {p : Cal × Int} {a : Int × Nat} (h : NQ B a) (hp : IsLeaf p.1) (h0 : 0 ≤ p.2) (hB : p.2 + 401 ≤ B) :
    NQ B (stepNQ p a) ∧ a.1 ≤ (stepNQ p a).1 ∧ a.2 ∣ (stepNQ p a).2 ∧ Per p.1 ((stepNQ p a).1 - p.2) ((stepNQ p a).2 : Int) := by
  obtain ⟨c, l⟩ := p
  obtain ⟨n, q⟩ := a
  obtain ⟨n0, nB, q1, q60⟩ := h
  have n0 : 0 ≤ n := n0
  have nB : n ≤ B := nB
  have q1 : 1 ≤ q := q1
  have h0 : 0 ≤ l := h0
  have hB : l + 401 ≤ B := hB
  match c, hp with
  | .list ts, hp =>
    have g := foldl_max_ge (ts.map fun t => l + t + 1) n
    have g2 := foldl_max_le (ts.map fun t => l + t + 1) n B nB (fun x hx => by
      obtain ⟨t, ht, rfl⟩ := List.mem_map.mp hx
      have := hp.1 t ht
      omega)
    refine ⟨⟨by show 0 ≤ (ts.map fun t => l + t + 1).foldl max n; have := g.1; omega, g2, q1, q60⟩, g.1, Nat.dvd_refl _, ?_⟩
    show Per (.list ts) ((ts.map fun t => l + t + 1).foldl max n - l) q
    refine list_end (fun t ht => ?_) (by omega)
    have := g.2 (l + t + 1) (List.mem_map.mpr ⟨t, ht, rfl⟩)
    omega
  | .every k s none, hp =>
    obtain ⟨⟨k1, k60'⟩, ⟨s0, s8⟩, _⟩ := hp
    have kq : (k.toNat : Int) = k := by omega
    have k60 : k.toNat ∣ 60 := by
      have := k60'
      rw [← kq] at this
      exact Int.natCast_dvd_natCast.mp this
    refine ⟨⟨by show 0 ≤ max n (l + s); omega, by show max n (l + s) ≤ B; omega, Nat.pos_of_ne_zero (Nat.lcm_ne_zero (by omega) (by omega)), Nat.lcm_dvd q60 k60⟩, by show n ≤ max n (l + s); omega, Nat.dvd_lcm_left _ _, ?_⟩
    show Per (.every k s none) (max n (l + s) - l) ((Nat.lcm q k.toNat : Nat) : Int)
    refine (every_per ?_ (by omega)).mono (by omega)
    rw [← kq]
    exact Int.natCast_dvd_natCast.mpr (Nat.dvd_lcm_right _ _)
  | .every k s (some e), hp =>
    obtain ⟨_, _, e0, e29⟩ := hp
    have e29 : e ≤ 400 := e29
    have e0 : 0 ≤ e := e0
    refine ⟨⟨by show 0 ≤ max n (l + e + 1); omega, by show max n (l + e + 1) ≤ B; omega, q1, q60⟩, by show n ≤ max n (l + e + 1); omega, Nat.dvd_refl _, ?_⟩
    show Per (.every k s (some e)) (max n (l + e + 1) - l) q
    exact (every_end (by omega)).mono (by omega)
theorem foldNQ_ok {B : Int} : ∀ {L : List (Cal × Int)} {a : Int × Nat}, NQ B a → (∀ p ∈ L, IsLeaf p.1 ∧ 0 ≤ p.2 ∧ p.2 + 401 ≤ B) →
    NQ B (foldNQ L a) ∧ a.1 ≤ (foldNQ L a).1 ∧ a.2 ∣ (foldNQ L a).2 ∧ ∀ p ∈ L, Per p.1 ((foldNQ L a).1 - p.2) ((foldNQ L a).2 : Int)
  | [], a, h, _ => ⟨h, Int.le_refl _, Nat.dvd_refl _, fun _ z => nomatch z⟩
  | p :: L, a, h, k => by
    obtain ⟨k1, k2, k3⟩ := k p List.mem_cons_self
    obtain ⟨s1, s2, s3, s4⟩ := stepNQ_ok h k1 k2 k3
    obtain ⟨f1, f2, f3, f4⟩ := foldNQ_ok s1 fun r hr => k r (List.mem_cons_of_mem _ hr)
    refine ⟨f1, Int.le_trans s2 f2, Nat.dvd_trans s3 f3, fun r hr => ?_⟩
    rcases List.mem_cons.mp hr with e | e
    · rw [e]
      show Per p.1 ((foldNQ L (stepNQ p a)).1 - p.2) ((foldNQ L (stepNQ p a)).2 : Int)
      exact (s4.dvd (by omega) (by omega) (Int.natCast_dvd_natCast.mpr f3)).mono (by omega)
    · exact f4 r e
def nqOf (c : Cal) : Int × Nat := foldNQ (leaves c 0) (0, 1)
theorem nqOf_ok {c : Cal} (h : Mild c 0) : NQ 701 (nqOf c) ∧ Per c (nqOf c).1 ((nqOf c).2 : Int) := by
  obtain ⟨f1, _, _, f4⟩ := foldNQ_ok (B := 701) (L := leaves c 0) (a := (0, 1)) ⟨Int.le_refl _, by show (0 : Int) ≤ 701; decide, Nat.le_refl _, Nat.one_dvd _⟩ fun p hp => by
    have := mild_leaves h p hp
    exact ⟨this.1, this.2.1, by have := this.2.2; omega⟩
  refine ⟨f1, ?_⟩
  have := leaves_per (c := c) (l := 0) f4
  rw [Int.sub_zero] at this
  exact this
/-- a period is a multiple of the least one -/
theorem Rep.dvd {c : Cal} {n q m p : Int} (h : Rep c n q) (k : Per c m p) (hp : 1 ≤ p) : q ∣ p := by
  have q1 := h.q1
  have h3 : 0 ≤ p % q := Int.emod_nonneg _ (by omega)
  have h4 : p % q < q := Int.emod_lt_of_pos _ (by omega)
  have h1 := Int.emod_add_mul_ediv p q
  have h2 : 0 ≤ p / q := Int.ediv_nonneg (by omega) (by omega)
  by_cases z : p % q = 0
  · exact Int.dvd_of_emod_eq_zero z
  · refine absurd (fun t ht => ?_) (h.lq (p % q) (by omega) h4 (max n m))
    have hn : n ≤ t := by omega
    have hm : m ≤ t := by omega
    have e := h.per.mul (by omega) (p / q).toNat (t + p % q) (by omega)
    rw [← e, show t + p % q + ((p / q).toNat : Int) * q = t + p by rw [show ((p / q).toNat : Int) = p / q by omega, Int.mul_comm]; omega]
    exact k t hm
/-- it begins to repeat no later than where some period holds -/
theorem Rep.le {c : Cal} {n q m p : Int} (h : Rep c n q) (m0 : 0 ≤ m) (hp : 1 ≤ p) (k : Per c m p) : n ≤ m := by
  have q1 := h.q1
  rcases Int.lt_or_le m n with z | z
  · exact absurd (Per.back hp k h.per (by omega) (n - 1) (by omega)) (h.ln (by omega))
  · exact z
end Cl
set_option Elab.async false
set_option linter.all false
set_option maxRecDepth 100000
set_option maxHeartbeats 4000000
/-! tuple(e for x in xs if t), xs a list or tuple; tuple(e for k, x in enumerate(list) if t): e and t raw, over what the def holds -/
namespace Y1
open PySem PySem.Spec PyProof.Rows L2

/-- a name of the def that the generator expression reads, as its cell -/
def Caught (X : Cx) (σ : L2.St) (scope : Scope) (cenv : Env) (h : Heap) : Prop :=
  ∀ (i : Nat) (y : Str) (v : V), X.N[i]? = some y → σ[i]? = some (some v) →
    (X.env.scope.names.lookup y = some .cell ∨ X.env.scope.names.lookup y = some .free) → (y, NameKind.free) ∈ scope.names →
    ∃ (c : Addr) (u : Value), cenv.cells.lookup y = some c ∧ h.IsCell c (some u) ∧ RelV v u

theorem caught_of {X : Cx} {pins : List (Addr × Obj)} {σ : L2.St} {H : Hp} {s : Shared} {scope : Scope} {cenv : Env} {P : Addr} {ps : Array Value} {h : Heap}
    (I : Inv X pins σ H s) (hP : H P = some (.tbl ps)) (hfree : ∀ y ∈ scope.names, y.2 = .free → ∃ c, X.env.cells.lookup y.1 = some c)
    (hcl : cenv.cells = cloFrom X.env.cells scope.names []) (kp : ∀ b o, b ≠ P → s.heap.get? b = some o → h.get? b = some o) : Caught X σ scope cenv h := by
  intro i y v hN hs hk hy
  obtain ⟨m, hn, hl⟩ := I.loc
  obtain ⟨u, r, lk⟩ := hl i y v hN hs (.inr hk)
  rcases lk with ⟨z, _⟩ | ⟨_, c, hc, o, ho, hd⟩
  · have z' : X.env.scope.names.lookup y = some NameKind.local := z
    rcases hk with e | e <;> (rw [z'] at e; cases e)
  · refine ⟨c, u, by rw [hcl]; exact NdefX.clo_has hfree hy hc, ⟨o, kp c o (fun e => ?_) ho, hd⟩, r⟩
    have q := I.freeC y c hc
    rw [e, hP] at q
    cases q

/-- what is asked of the element and the tests, turn by turn: v the item, told by vs -/
def GElt (X : Cx) (σ : L2.St) (H : Hp) (P : Addr) (scope : Scope) (x : Str) (ifs : List Expr) (elt : Expr) (vs : List V) (pz : Nat → Bool) (f : Nat → V) : Prop :=
  ∀ (pins : List (Addr × Obj)) (s : Shared), Inv X pins σ H s →
  ∀ (cenv : Env) (A' : Around) (E' : Value → Shared → Prop) (i : Nat) (v : V) (u : Value) (s₂ : Shared) (m₂ : Str → Option Value),
    cenv.scope = scope → A'.handled = none → vs[i]? = some v → RelV v u → s₂.heap.Ns cenv.locals m₂ → m₂ x = some u → Caught X σ scope cenv s₂.heap →
    (∀ b o, b ≠ P → s.heap.get? b = some o → s₂.heap.get? b = some o) →
    wpAny (model X.prog X.w) A' (forIn ifs true fun c r => if r = true then do let ok ← isTrue c cenv (eval c cenv); pure (ForInStep.yield ok) else pure (ForInStep.yield r))
        (fun ok s₃ => ok = pz i ∧ Keeps s₂ s₃) E' s₂ ∧
    (pz i = true → wpAny (model X.prog X.w) A' (eval elt cenv) (fun y s₃ => RelV (f i) y ∧ Keeps s₂ s₃) E' s₂)

/-- the same for the pairs of enumerate -/
def GEltE (X : Cx) (σ : L2.St) (H : Hp) (P : Addr) (scope : Scope) (xa xb : Str) (ifs : List Expr) (elt : Expr) (vs : List V) (pz : Nat → Bool) (f : Nat → V) : Prop :=
  ∀ (pins : List (Addr × Obj)) (s : Shared), Inv X pins σ H s →
  ∀ (cenv : Env) (A' : Around) (E' : Value → Shared → Prop) (i : Nat) (t : Tok) (v : V) (u : Value) (s₂ : Shared) (m₂ : Str → Option Value),
    cenv.scope = scope → A'.handled = none → vs[i]? = some v → RelV v u → s₂.heap.Ns cenv.locals m₂ → m₂ xa = some (.int i t) → m₂ xb = some u → Caught X σ scope cenv s₂.heap →
    (∀ b o, b ≠ P → s.heap.get? b = some o → s₂.heap.get? b = some o) →
    wpAny (model X.prog X.w) A' (forIn ifs true fun c r => if r = true then do let ok ← isTrue c cenv (eval c cenv); pure (ForInStep.yield ok) else pure (ForInStep.yield r))
        (fun ok s₃ => ok = pz i ∧ Keeps s₂ s₃) E' s₂ ∧
    (pz i = true → wpAny (model X.prog X.w) A' (eval elt cenv) (fun y s₃ => RelV (f i) y ∧ Keeps s₂ s₃) E' s₂)

/-- the generator at g is ready; H1: what was held before -/
def GReady (X : Cx) (pins : List (Addr × Obj)) (σ : L2.St) (H1 : Hp) (P : Addr) (n : Nat) (F : Nat → Value → Prop) (g : Addr) (s5 : Shared) : Prop :=
  ∃ (fp wr : List Addr) (G : Array GenState → Array GenState → Prop) (St : Nat → Shared → Prop),
    WalksS X.prog X.w X.A.in4 g fp wr G n F St ∧ St 0 s5 ∧ (∀ b ∈ fp, b < s5.heap.objs.size) ∧ g ∈ fp ∧ (∀ i s9, St i s9 → s9.TypeIs (.ref g) "generator") ∧
    ∀ s', Moved wr G s5 s' → ∃ H2, GxR.Tabbed P H1 H2 ∧ Inv X pins σ H2 s'

/-- the names of the expression's scope -/
structure GScp (env : Env) (scope : Scope) : Prop where
  kind : scope.kind = .function
  co : scope.isCoroutine = false
  cell : ∀ y ∈ scope.names, y.2 ≠ .cell
  dot : scope.names.lookup (".0" : Str) = some NameKind.local
  free : ∀ y ∈ scope.names, y.2 = .free → ∃ c, env.cells.lookup y.1 = some c

section
variable {X : Cx} {pins : List (Addr × Obj)} {σ : L2.St} {H H1 : Hp} {s s1 : Shared}

/-- behind the making of the code object: the generator is ready -/
theorem ready_of {P C g : Addr} {ps ps' : Array Value} {wr : List Addr} {h3 h5 : Heap} {tk5 : Nat} {gs : GenState} {n : Nat} {F : Nat → Value → Prop} {St : Nat → Shared → Prop}
    (I1 : Inv X pins σ H1 s1) (hP : H1 P = some (.tbl ps)) (hC : s1.heap.objs.size ≤ C) (hwr : ∀ b ∈ wr, s1.heap.objs.size ≤ b)
    (keep3 : ∀ b u, b ≠ P → s1.heap.get? b = some u → h3.get? b = some u) (hP3 : h3.get? P = some { cls := .none, data := .fields ps' }) (hmore : ∃ more, ps' = ps ++ more) (ht3 : TriplesOk ps'.toList)
    (hCg : C < g) (hgb : gs.bare = true) (hag : h3.objs.size < g) (hsz5 : h5.objs.size = g + 1) (hk5 : ∀ b o, h3.get? b = some o → h5.get? b = some o)
    (W5 : WalksS X.prog X.w X.A.in4 g (g :: C :: List.range h3.objs.size) (C :: wr) (GenOnlyQ s1.gens.size) n F St)
    (hat : St 0 { s1 with gens := s1.gens.push gs, toks := tk5, heap := h5 }) (hty : ∀ i s9, St i s9 → s9.TypeIs (.ref g) "generator") :
    GReady X pins σ H1 P n F g { s1 with gens := s1.gens.push gs, toks := tk5, heap := h5 } := by
  have hPs : s1.heap.get? P = some { cls := .none, data := .fields ps } := I1.hok P _ hP
  refine ⟨_, _, _, _, W5, hat, fun b hb => ?_, List.mem_cons_self, hty, fun s' hm => ?_⟩
  · show b < h5.objs.size
    rw [hsz5]
    rcases List.mem_cons.mp hb with z | z
    · rw [z]; exact Nat.lt_succ_self g
    · rcases List.mem_cons.mp z with z | z
      · rw [z]; exact Nat.lt_succ_of_lt hCg
      · exact Nat.lt_succ_of_lt (Nat.lt_trans (List.mem_range.mp z) hag)
  · obtain ⟨more, em⟩ := hmore
    have nwr : ∀ b u, s1.heap.get? b = some u → b ∉ C :: wr := fun b u e hb => by
      have hl := Heap.lt_size e
      have : s1.heap.objs.size ≤ b := by
        rcases List.mem_cons.mp hb with z | z
        · rw [z]; exact hC
        · exact hwr b z
      exact Nat.lt_irrefl _ (Nat.lt_of_lt_of_le hl this)
    have kept : ∀ b u, b ≠ P → s1.heap.get? b = some u → s'.heap.get? b = some u := fun b u hb e =>
      hm.heap b u (nwr b u e) (hk5 b u (keep3 b u hb e))
    have tab : s'.heap.get? P = some { cls := .none, data := .fields (ps ++ more) } := by
      rw [← em]; exact hm.heap P _ (nwr P _ hPs) (hk5 P _ hP3)
    have J := GxR.inv_tab (more := more) (h' := s'.heap) (g' := s'.gens) (d' := s'.drawn) (t' := s'.toks) I1 hP kept tab (AllBare.movedS (I1.bare.push hgb) hm)
    rw [GxR.sh_eta s1 s' hm.os] at J
    exact ⟨upd H1 P (.tbl (ps ++ more)), ⟨⟨ps ++ more, upd_same, by rw [← em]; exact ht3⟩, fun b hb => upd_ne hb⟩, J⟩

/-- the generator's elements -/
def GF (n : Nat) (pz : Nat → Bool) (f : Nat → V) : Nat → Value → Prop := fun j y => ∃ i, (passing pz n 0)[j]? = some i ∧ RelV (f i) y
/-- the values that come -/
def gout (n : Nat) (pz : Nat → Bool) (f : Nat → V) : List V := ((List.range n).filter pz).map f
theorem passing0 (pz : Nat → Bool) (n : Nat) : passing pz n 0 = (List.range n).filter pz := by
  unfold passing
  rw [List.drop_zero]
theorem gout_vals {n : Nat} {pz : Nat → Bool} {f : Nat → V} {acc : Array Value} (h : ItemsOf (GF n pz f) acc (passing pz n 0).length) : Vals (gout n pz f) acc.toList := by
  have key : ∀ (l : List Nat) (us : List Value), us.length = l.length → (∀ (j : Nat) (y : Value), us[j]? = some y → ∃ i : Nat, l[j]? = some i ∧ RelV (f i) y) → Vals (l.map f) us := by
    intro l
    induction l with
    | nil =>
      intro us hl _
      cases us with
      | nil => exact .nil
      | cons a b => cases hl
    | cons i l ih =>
      intro us hl hu
      cases us with
      | nil => cases hl
      | cons a b =>
        refine .cons ?_ (ih b (Nat.succ.inj hl) fun j y e => ?_)
        · obtain ⟨i', e1, r⟩ := hu 0 a rfl
          cases e1
          exact r
        · obtain ⟨i', e1, r⟩ := hu (j + 1) y e
          exact ⟨i', e1, r⟩
  unfold gout
  rw [← passing0]
  refine key _ _ (by rw [Array.length_toList]; exact h.1) fun j y e => ?_
  exact h.2 j y (by rw [← Array.getElem?_toList]; exact e)

/-- the making of the code object, in a heap h2 that holds all of s1's -/
theorem code_step {c P : Addr} {ps : Array Value} {gpos : Pos} {scope : Scope} {h2 : Heap} {tk : Nat} {R : Value → Addr → Shared → Prop} {E : Value → Shared → Prop}
    (TB : GxR.TabB X.base X.mg c P) (hcode : X.env.code = .ref c) (I1 : Inv X pins σ H1 s1) (hP : H1 P = some (.tbl ps)) (ht : TriplesOk ps.toList)
    (k2 : ∀ b o, s1.heap.get? b = some o → h2.get? b = some o)
    (hR : ∀ (code : Value) (h3 : Heap) (tk3 : Nat) (ps' : Array Value), Heap.ExtBut P h2 h3 → h2.objs.size ≤ h3.objs.size → h3.get? P = some { cls := .none, data := .fields ps' } →
      (∃ more, ps' = ps ++ more) → TriplesOk ps'.toList → h3.NoLimit → R code builtinsNs { s1 with heap := h3, toks := tk3 }) :
    wpAny (model X.prog X.w) X.A (genexprCode X.env gpos (X.env.qual ++ "<genexpr>") scope) (fun code s₃ => wpAny (model X.prog X.w) X.A (builtinsFor X.env.globals X.env.builtins) (fun bi s₄ => R code bi s₄) E s₃) E { s1 with heap := h2, toks := tk } := by
  have hPs : s1.heap.get? P = some { cls := .none, data := .fields ps } := I1.hok P _ hP
  have hP2 : h2.get? P = some { cls := .none, data := .fields ps } := k2 _ _ hPs
  have cd : PySem.W.CodeHd h2 c P := TB.code.keeps fun b u e => k2 b u (I1.bk b u e)
  have lim2 : h2.NoLimit := I1.nolimit.keeps k2
  have nP : cStatics ≠ P := fun e => by
    obtain ⟨_, ⟨o', es, ep, ho, hd, _⟩, _⟩ := I1.nolimit
    rw [e, hPs] at ho
    cases ho
    cases hd
  have go : ∀ (code : Value) (h3 : Heap) (tk3 : Nat) (ps' : Array Value), Heap.ExtBut P h2 h3 → h2.objs.size ≤ h3.objs.size → h3.get? P = some { cls := .none, data := .fields ps' } →
      (∃ more, ps' = ps ++ more) → TriplesOk ps'.toList →
      wpAny (model X.prog X.w) X.A (builtinsFor X.env.globals X.env.builtins) (fun bi s₄ => R code bi s₄) E { s1 with heap := h3, toks := tk3 } := by
    intro code h3 tk3 ps' hx hsz hP3 hmore ht3
    obtain ⟨bm, ob, e1, e2, e3, e4, e5, e6, e7, e8⟩ := TB.bm
    have keepB : ∀ b u, b ≠ P → s1.heap.get? b = some u → h3.get? b = some u := fun b u hb e => hx b u hb (k2 b u e)
    refine wpAny_builtinsFor (m := X.mg) ?_ e1 e2 (keepB _ _ e4 (I1.bk _ _ e5)) e6 e7 e8 (hR code h3 tk3 ps' hx hsz hP3 hmore ht3 (lim2.extBut hx nP))
    rw [I1.ok.glob]
    exact ((I1.mod.glob.keeps I1.bk).keeps k2).extBut hx TB.gP
  cases hf : codeAmong gpos ps.toList with
  | none =>
    refine wpAny_genexprCodeX hcode (cd.code hP2 ht) (cd.tab hP2) hf fun c' h' tk' hx hge hlt hco' _ htab' _ => ?_
    obtain ⟨o1, vs, f1, tf, fl, tg, inF, tx, tt, op, _, _, _, _, _, _, _, _, _, htr, _⟩ := hco'
    exact go _ h' tk' _ hx (Nat.le_trans hge (Nat.le_of_lt hlt)) htab'.2 ⟨_, rfl⟩ htr
  | some cv =>
    refine wpAny_genexprCode_hit hcode (cd.code hP2 ht) hf ?_
    exact go cv h2 tk ps (Heap.ExtBut.refl _ _) (Nat.le_refl _) hP2 ⟨#[], by simp⟩ ht

/-- (e for x in xs if t), xs a list or a tuple -/
theorem gen1 {c P : Addr} {elt iter : Expr} {x : Str} {px gpos : Pos} {ifs : List Expr} {scope : Scope} {te : TE} {k : Nat} {Q' : Value → Shared → Prop} {R : List V → (Nat → Bool) → (Nat → V) → Hp → Prop}
    (hr : Room k X.A) (TB : GxR.TabB X.base X.mg c P) (hcode : X.env.code = .ref c) (S : GScp X.env scope) (hx : scope.names.lookup x = some .local) (hi : PE X iter te)
    (hs : ∀ v, genFold iter X.env v = pure v) (I : Inv X pins σ H s)
    (h : te σ H fun v H1 => ∃ (a : Addr) (vs : List V) (pz : Nat → Bool) (f : Nat → V), v = .ref a ∧ (SqL X.K H1 a vs ∨ SqT X.K H1 a vs) ∧ GxR.TabG H1 P ∧ GElt X σ H1 P scope x ifs elt vs pz f ∧ R vs pz f H1)
    (hQ : ∀ vs pz f H1 g s5, R vs pz f H1 → GReady X pins σ H1 P (passing pz vs.length 0).length (GF vs.length pz f) g s5 → Q' (.ref g) s5) :
    wpAny (model X.prog X.w) X.A (eval (.GeneratorExp elt [⟨.Name x px, iter, ifs, 0⟩] scope gpos) X.env) Q' X.xe s := by
  refine wpAny_GeneratorExp_walksQ hr.hd S.co (closure_ok S.free) S.cell S.dot hx S.kind (by have := hr.dp; omega) ?_ hs
  refine thn (hi.run pins s σ H _ I h) fun xv s1 ⟨v, H1, I1, r1, q1⟩ => ?_
  obtain ⟨a, vs, pz, f, rfl, hseq, ⟨ps, hP, ht⟩, hel, q1⟩ := q1
  obtain rfl : xv = Value.ref a := r1
  have hPs : s1.heap.get? P = some { cls := .none, data := .fields ps } := I1.hok P _ hP
  have hPlt : P < s1.heap.objs.size := Heap.lt_size hPs
  have nPa : ∀ {ob : Obj}, s1.heap.get? a = some ob → (∀ qs, ob.data ≠ .fields qs) → a ≠ P := fun {ob} e d z => by
    rw [z, hPs] at e
    cases e
    exact d _ rfl
  -- what both kinds of walks share
  have src : ∃ (its : List Value) (o : Obj) (St₀ : Nat → Heap → Prop), Vals vs its ∧ a < s1.heap.objs.size ∧
      (∀ A' : Around, A'.handled = none → Walks X.prog X.w A' s1.heap.objs.size [s1.heap.objs.size, a] [s1.heap.objs.size] its.toArray.size (fun i v => its.toArray[i]? = some v) St₀) ∧
      (∀ h3 : Heap, (∀ b u, b ≠ P → (s1.heap.push o).get? b = some u → h3.get? b = some u) → St₀ 0 h3) ∧
      (∀ Q0 : Value → Shared → Prop, Q0 (.ref s1.heap.objs.size) { s1 with heap := s1.heap.push o } → wpAny (model X.prog X.w) X.A (pyIter (.ref a)) Q0 X.xe s1) := by
    rcases hseq with hq | hq
    · obtain ⟨its, rv, pl, hz⟩ := I1.list hq
      have hIL := pl.isList
      obtain ⟨ob, e1, e2, n1, e3⟩ := _root_.id hIL
      have halt := Heap.lt_size e1
      exact ⟨its, _, fun i h => h.IsListIter s1.heap.objs.size a i ∧ h.IsList a its.toArray, rv, halt, fun A' hA => Walks.list hA _ _ (Nat.ne_of_lt halt) _,
        fun h3 k3 => ⟨⟨_, k3 _ _ (Nat.ne_of_gt hPlt) (Heap.get?_push_size _ rfl), rfl, rfl⟩, ⟨ob, k3 _ _ (nPa e1 fun qs z => by rw [e3] at z; cases z) (Heap.get?_push_of_some _ e1), e2, n1, e3⟩⟩,
        fun Q0 q0 => wpAny_pyIter_list hIL q0⟩
    · obtain ⟨its, rv, pl, hz⟩ := I1.tuple hq
      obtain ⟨ob, e1, e2, n1, e3⟩ := _root_.id pl
      have hIT : s1.heap.IsTuple a its.toArray := ⟨ob, e1, e2, n1, e3⟩
      have halt := Heap.lt_size e1
      exact ⟨its, _, fun i h => h.IsTupleIter s1.heap.objs.size a i ∧ h.IsTuple a its.toArray, rv, halt, fun A' hA => Walks.tuple hA _ _ (Nat.ne_of_lt halt) _,
        fun h3 k3 => ⟨⟨_, k3 _ _ (Nat.ne_of_gt hPlt) (Heap.get?_push_size _ rfl), rfl, rfl⟩, ⟨ob, k3 _ _ (nPa e1 fun qs z => by rw [e3] at z; cases z) (Heap.get?_push_of_some _ e1), e2, n1, e3⟩⟩,
        fun Q0 q0 => wpAny_pyIter_tuple hIT q0⟩
  obtain ⟨its, o, St₀, rv, halt, W, hSt, hpy⟩ := src
  refine hpy _ ?_
  have hn : its.toArray.size = vs.length := by rw [List.size_toArray, rv.length]
  refine ⟨I1.nolimit.push o, ?_⟩
  refine code_step (tk := s1.toks) TB hcode I1 hP ht (fun b u e => Heap.get?_push_of_some _ e) fun code h3 tk3 ps' hx3 hsz hP3 hmore ht3 lim3 => ?_
  have sz2 : (s1.heap.push o).objs.size = s1.heap.objs.size + 1 := Heap.size_push ..
  have keep3 : ∀ b u, b ≠ P → s1.heap.get? b = some u → h3.get? b = some u := fun b u hb e => hx3 b u hb (Heap.get?_push_of_some _ e)
  refine ⟨s1.heap.objs.size, [s1.heap.objs.size, a], [s1.heap.objs.size], its.toArray.size, (fun i v => its.toArray[i]? = some v), St₀, pz, (fun i y => RelV (f i) y), rfl, W, hSt h3 (fun b u hb e => hx3 b u hb e), ?_, lim3, ?_, ?_, ?_⟩
  · intro b hb
    have : s1.heap.objs.size < h3.objs.size := by omega
    rcases List.mem_cons.mp hb with z | z
    · rw [z]; exact this
    · rcases List.mem_cons.mp z with z | z
      · rw [z]; exact Nat.lt_trans halt this
      · cases z
  · intro z
    have hcl : cStatics < s1.heap.objs.size := let ⟨_, hns, _⟩ := I1.nolimit; hns.lt
    rcases List.mem_cons.mp z with z | z
    · exact Nat.ne_of_lt hcl z
    · cases z
  · intro href hhref
    have kp9 : ∀ (s₂ : Shared), (∀ b ∈ List.range h3.objs.size, b ∉ [s1.heap.objs.size] → ∀ o, href.get? b = some o → s₂.heap.get? b = some o) → ∀ b o, b ≠ P → s1.heap.get? b = some o → s₂.heap.get? b = some o := fun s₂ hk b o9 hb e =>
      hk b (List.mem_range.mpr (Heap.lt_size (keep3 b o9 hb e))) (fun z => by
        rcases List.mem_cons.mp z with z | z
        · exact Nat.ne_of_lt (Heap.lt_size e) z
        · cases z) o9 (hhref b o9 (keep3 b o9 hb e))
    have one : ∀ (A' : Around) (E' : Value → Shared → Prop) (i : Nat) (u : Value) (s₂ : Shared) (m₂ : Str → Option Value), A'.handled = none → its.toArray[i]? = some u → s₂.heap.Ns h3.objs.size m₂ → m₂ x = some u →
        (∀ b ∈ List.range h3.objs.size, b ∉ [s1.heap.objs.size] → ∀ o, href.get? b = some o → s₂.heap.get? b = some o) →
        wpAny (model X.prog X.w) A' (forIn ifs true fun c r => if r = true then do let ok ← isTrue c (genEnv scope (cloFrom X.env.cells scope.names []) h3.objs.size code builtinsNs X.env) (eval c (genEnv scope (cloFrom X.env.cells scope.names []) h3.objs.size code builtinsNs X.env)); pure (ForInStep.yield ok) else pure (ForInStep.yield r))
            (fun ok s₃ => ok = pz i ∧ Keeps s₂ s₃) E' s₂ ∧
        (pz i = true → wpAny (model X.prog X.w) A' (eval elt (genEnv scope (cloFrom X.env.cells scope.names []) h3.objs.size code builtinsNs X.env)) (fun y s₃ => RelV (f i) y ∧ Keeps s₂ s₃) E' s₂) := fun A' E' i u s₂ m₂ hA hu hn hm hk => by
      have hu2 : its[i]? = some u := by simpa using hu
      have hi2 : i < vs.length := by rw [rv.length]; exact (List.getElem?_eq_some_iff.mp hu2).1
      obtain ⟨u', e1, r⟩ := rv.get (List.getElem?_eq_getElem hi2)
      rw [hu2] at e1
      cases e1
      exact hel pins s1 I1 (genEnv scope (cloFrom X.env.cells scope.names []) h3.objs.size code builtinsNs X.env) A' E' i _ u s₂ m₂ rfl hA (List.getElem?_eq_getElem hi2) r hn hm
        (caught_of I1 hP S.free rfl (kp9 s₂ hk)) (kp9 s₂ hk)
    exact ⟨fun A' E' i v s₂ m₂ hA hPv hn hm hk => (one A' E' i v s₂ m₂ hA hPv hn hm hk).1, fun A' E' i v s₂ m₂ hA hPv hp hn hm hk => (one A' E' i v s₂ m₂ hA hPv hn hm hk).2 hp⟩
  · intro g h5 tk5 gs hgb hag hsz5 hk5 W5 hat
    rw [hn] at W5 hat
    refine hQ vs pz f H1 g _ q1 (ready_of (s1 := s1) (C := h3.objs.size) I1 hP (by omega) (fun b hb => ?_) keep3 hP3 hmore ht3 hag hgb hag hsz5 hk5 W5 hat fun i s9 h9 => ?_)
    · rcases List.mem_cons.mp hb with z | z
      · rw [z]; exact Nat.le_refl _
      · cases z
    · exact h9.1.typeIs

/-- (e for k, x in enumerate(xs) if t), xs a list -/
theorem genE {c P : Addr} {elt e : Expr} {xa xb : Str} {pa pb pt pn cpos gpos : Pos} {kt : Nat} {ifs : List Expr} {scope : Scope} {ta : TA} {k : Nat} {Q' : Value → Shared → Prop} {R : List V → (Nat → Bool) → (Nat → V) → Hp → Prop}
    (hr : Room k X.A) (TB : GxR.TabB X.base X.mg c P) (hcode : X.env.code = .ref c) (S : GScp X.env scope) (hxa : scope.names.lookup xa = some .local) (hxb : scope.names.lookup xb = some .local) (hab : xa ≠ xb)
    (hg : Gl X "enumerate") (hm : X.mg "enumerate" = none) (ha : PA X [e] ta) (he1 : starEach [e] X.env = [(false, eval e X.env)])
    (hs : ∀ v, genFold (.Call (.Name "enumerate" pn) [e] [] cpos) X.env v = pure v) (I : Inv X pins σ H s)
    (h : ta σ H fun ws H1 => ∃ (a : Addr) (vs : List V) (pz : Nat → Bool) (f : Nat → V), ws = [.ref a] ∧ SqL X.K H1 a vs ∧ GxR.TabG H1 P ∧ GEltE X σ H1 P scope xa xb ifs elt vs pz f ∧ R vs pz f H1)
    (hQ : ∀ vs pz f H1 g s5, R vs pz f H1 → GReady X pins σ H1 P (passing pz vs.length 0).length (GF vs.length pz f) g s5 → Q' (.ref g) s5) :
    wpAny (model X.prog X.w) X.A (eval (.GeneratorExp elt [⟨.Tuple [.Name xa pa, .Name xb pb] kt pt, .Call (.Name "enumerate" pn) [e] [] cpos, ifs, 0⟩] scope gpos) X.env) Q' X.xe s := by
  refine wpAny_GeneratorExp_walksQT hr.hd S.co (closure_ok S.free) S.cell S.dot hxa hxb hab S.kind (by have := hr.dp; omega) ?_ hs
  refine Call_ (ld_blt I hg hm boot_enumerate (PyProof.Rows.callWith_type1 (thn (ha.run cpos pins s σ H _ I h) fun us s1 ⟨ws, H1, I1, r1, q1⟩ => ?_) he1 rfl))
  obtain ⟨a, vs, pz, f, rfl, hq, ⟨ps, hP, ht⟩, hel, q1⟩ := q1
  cases r1 with
  | cons r rr =>
    cases rr
    cases r
    have hPs : s1.heap.get? P = some { cls := .none, data := .fields ps } := I1.hok P _ hP
    have hPlt : P < s1.heap.objs.size := Heap.lt_size hPs
    obtain ⟨its, rv, pl, hz⟩ := I1.list hq
    have hIL := pl.isList
    obtain ⟨ob, e1, e2, n1, e3⟩ := _root_.id hIL
    have halt := Heap.lt_size e1
    have hn : its.toArray.size = vs.length := by rw [List.size_toArray, rv.length]
    have naP : a ≠ P := fun z => by
      rw [z, hPs] at e1
      cases e1
      cases e3
    refine call_enumerate_list hIL fun h' he hit hsz hk => wpAny_pyIter_enum he ?_
    refine ⟨I1.nolimit.keeps hk, ?_⟩
    refine code_step (tk := s1.toks) TB hcode I1 hP ht hk fun code h3 tk3 ps' hx3 hsz3 hP3 hmore ht3 lim3 => ?_
    have keep3 : ∀ b u, b ≠ P → s1.heap.get? b = some u → h3.get? b = some u := fun b u hb e => hx3 b u hb (hk b u e)
    have new1 : ∀ {b : Addr}, s1.heap.objs.size ≤ b → b ≠ P := fun hb z => by
      rw [z] at hb
      exact Nat.lt_irrefl _ (Nat.lt_of_lt_of_le hPlt hb)
    have W : ∀ A' : Around, A'.handled = none → WalksU X.prog X.w A' (s1.heap.objs.size + 1) [s1.heap.objs.size + 1, s1.heap.objs.size, a] [s1.heap.objs.size + 1, s1.heap.objs.size] its.toArray.size _ _ _ := fun A' hA =>
      (WalksT.enumerate (prog := X.prog) (w := X.w) hA (s1.heap.objs.size + 1) s1.heap.objs.size a (Nat.succ_ne_self _) (Nat.ne_of_lt (Nat.lt_succ_of_lt halt)) (Nat.ne_of_lt halt) its.toArray).toU
    have hit3 : h3.IsListIter s1.heap.objs.size a 0 := hit.at fun u e => hx3 _ u (new1 (Nat.le_refl _)) e
    have hl3 : h3.IsList a its.toArray := ⟨ob, keep3 _ _ naP e1, e2, n1, e3⟩
    refine ⟨s1.heap.objs.size + 1, _, _, its.toArray.size, _, _, _, pz, (fun i y => RelV (f i) y), rfl, W, (fun i vals hv => let ⟨t, y, _, e9⟩ := hv; ⟨_, _, e9⟩),
      ⟨⟨.none, hx3 _ _ (new1 (Nat.le_succ _)) he⟩, hit3, hl3⟩, ?_, lim3, ?_, ?_, ?_⟩
    · intro b hb
      have : s1.heap.objs.size + 1 < h3.objs.size := by omega
      rcases List.mem_cons.mp hb with z | z
      · rw [z]; exact this
      · rcases List.mem_cons.mp z with z | z
        · rw [z]; exact Nat.lt_of_succ_lt this
        · rcases List.mem_cons.mp z with z | z
          · rw [z]; exact Nat.lt_trans halt (Nat.lt_of_succ_lt this)
          · cases z
    · intro z
      have hcl : cStatics < s1.heap.objs.size := let ⟨_, hns, _⟩ := I1.nolimit; hns.lt
      rcases List.mem_cons.mp z with z | z
      · exact Nat.ne_of_lt (Nat.lt_succ_of_lt hcl) z
      · rcases List.mem_cons.mp z with z | z
        · exact Nat.ne_of_lt hcl z
        · cases z
    · intro href hhref
      have kp9 : ∀ (s₂ : Shared), (∀ b ∈ List.range h3.objs.size, b ∉ [s1.heap.objs.size + 1, s1.heap.objs.size] → ∀ o, href.get? b = some o → s₂.heap.get? b = some o) → ∀ b o, b ≠ P → s1.heap.get? b = some o → s₂.heap.get? b = some o := fun s₂ hk9 b o9 hb e =>
        hk9 b (List.mem_range.mpr (Heap.lt_size (keep3 b o9 hb e))) (fun z => by
          have hlb := Heap.lt_size e
          rcases List.mem_cons.mp z with z | z
          · exact Nat.ne_of_lt (Nat.lt_succ_of_lt hlb) z
          · rcases List.mem_cons.mp z with z | z
            · exact Nat.ne_of_lt hlb z
            · cases z) o9 (hhref b o9 (keep3 b o9 hb e))
      have one : ∀ (A' : Around) (E' : Value → Shared → Prop) (i : Nat) (va vb : Value) (s₂ : Shared) (m₂ : Str → Option Value), A'.handled = none → (∃ t x, its.toArray[i]? = some x ∧ (#[va, vb] : Array Value) = #[.int i t, x]) → s₂.heap.Ns h3.objs.size m₂ → m₂ xa = some va → m₂ xb = some vb →
          (∀ b ∈ List.range h3.objs.size, b ∉ [s1.heap.objs.size + 1, s1.heap.objs.size] → ∀ o, href.get? b = some o → s₂.heap.get? b = some o) →
          wpAny (model X.prog X.w) A' (forIn ifs true fun c r => if r = true then do let ok ← isTrue c (genEnv scope (cloFrom X.env.cells scope.names []) h3.objs.size code builtinsNs X.env) (eval c (genEnv scope (cloFrom X.env.cells scope.names []) h3.objs.size code builtinsNs X.env)); pure (ForInStep.yield ok) else pure (ForInStep.yield r))
              (fun ok s₃ => ok = pz i ∧ Keeps s₂ s₃) E' s₂ ∧
          (pz i = true → wpAny (model X.prog X.w) A' (eval elt (genEnv scope (cloFrom X.env.cells scope.names []) h3.objs.size code builtinsNs X.env)) (fun y s₃ => RelV (f i) y ∧ Keeps s₂ s₃) E' s₂) := fun A' E' i va vb s₂ m₂ hA hv hn2 hma hmb hk9 => by
        obtain ⟨t, u, hu, e9⟩ := hv
        obtain ⟨e4, e5⟩ : va = .int i t ∧ vb = u := by simpa using congrArg Array.toList e9
        have hu2 : its[i]? = some u := by simpa using hu
        have hi2 : i < vs.length := by rw [rv.length]; exact (List.getElem?_eq_some_iff.mp hu2).1
        obtain ⟨u', e6, r⟩ := rv.get (List.getElem?_eq_getElem hi2)
        rw [hu2] at e6
        cases e6
        exact hel pins s1 I1 (genEnv scope (cloFrom X.env.cells scope.names []) h3.objs.size code builtinsNs X.env) A' E' i t _ u s₂ m₂ rfl hA (List.getElem?_eq_getElem hi2) r hn2 (by rw [hma, e4]) (by rw [hmb, e5])
          (caught_of I1 hP S.free rfl (kp9 s₂ hk9)) (kp9 s₂ hk9)
      exact ⟨fun A' E' i va vb s₂ m₂ hA hPv hn2 hma hmb hk9 => (one A' E' i va vb s₂ m₂ hA hPv hn2 hma hmb hk9).1, fun A' E' i va vb s₂ m₂ hA hPv hp hn2 hma hmb hk9 => (one A' E' i va vb s₂ m₂ hA hPv hn2 hma hmb hk9).2 hp⟩
    · intro g h5 tk5 gs hgb hag hsz5 hk5 W5 hat
      rw [hn] at W5 hat
      refine hQ vs pz f H1 g _ q1 (ready_of (s1 := s1) (C := h3.objs.size) I1 hP (by omega) (fun b hb => ?_) keep3 hP3 hmore ht3 hag hgb hag hsz5 hk5 W5 hat fun i s9 h9 => ?_)
      · rcases List.mem_cons.mp hb with z | z
        · rw [z]; exact Nat.le_succ _
        · rcases List.mem_cons.mp z with z | z
          · rw [z]; exact Nat.le_refl _
          · cases z
      · exact h9.1.typeIs

/-- tuple(g), g ready -/
theorem tuple_ready {P g : Addr} {n : Nat} {pz : Nat → Bool} {f : Nat → V} {s5 : Shared} {Q : VK} {E : Value → Shared → Prop} (hG : GReady X pins σ H1 P (passing pz n 0).length (GF n pz f) g s5) (hn : n ≤ sizeLine)
    (hq : ∀ H2 q, GxR.Tabbed P H1 H2 → H2 q = none → Q (.ref q) (upd H2 q (.tup (gout n pz f)))) :
    wpAny (model X.prog X.w) X.A (call (.type "tuple") [.ref g]) (EP X pins σ Q) E s5 := by
  obtain ⟨fp, wr, G, St, W, hst, hfp, hgf, hty, hinv⟩ := hG
  have hle : (passing pz n 0).length ≤ sizeLine := by
    rw [passing0]
    exact Nat.le_trans (List.length_filter_le _ _) (by rw [List.length_range]; exact hn)
  refine call_tuple_gen (hsz := hle) W.in4_3 hty hst hfp hgf fun s' acc hm hio => ?_
  obtain ⟨H2, hT, J⟩ := hinv s' hm
  have rv := gout_vals hio
  have fr : H2 s'.heap.objs.size = none := J.hok.fresh (Nat.le_refl _)
  have zl : (gout n pz f).length ≤ sizeLine := by rw [rv.length, Array.length_toList, hio.1]; exact hle
  refine ⟨.ref s'.heap.objs.size, upd H2 s'.heap.objs.size (.tup (gout n pz f)), J.laid (t' := s'.toks) (fun b u e => Heap.get?_push_of_some _ e) (Nat.le_refl _) ?_, rfl, hq _ _ hT fr⟩
  exact ⟨zl, acc.toList, rv, ⟨_, Heap.get?_push_size _ rfl, rfl, _, by rw [Array.toArray_toList]⟩⟩

theorem boot_tup : bootBuiltins "tuple" = some (.type "tuple") := by decide +kernel
/-- tuple(e for x in xs if t) -/
def tTupG (X : Cx) (P : Addr) (scope : Scope) (x : Str) (ifs : List Expr) (elt : Expr) (te : TE) : TE := fun σ H Q => te σ H fun v H1 =>
  ∃ (a : Addr) (vs : List V) (pz : Nat → Bool) (f : Nat → V), v = .ref a ∧ (SqL X.K H1 a vs ∨ SqT X.K H1 a vs) ∧ GxR.TabG H1 P ∧ GElt X σ H1 P scope x ifs elt vs pz f ∧ vs.length ≤ sizeLine ∧
    ∀ H2 q, GxR.Tabbed P H1 H2 → H2 q = none → Q (.ref q) (upd H2 q (.tup (gout vs.length pz f)))
theorem pe_tupG {c P : Addr} {elt iter : Expr} {x : Str} {px pn cpos gpos : Pos} {ifs : List Expr} {scope : Scope} {te : TE} {k : Nat}
    (hr : Room k X.A) (TB : GxR.TabB X.base X.mg c P) (hcode : X.env.code = .ref c) (S : GScp X.env scope) (hx : scope.names.lookup x = some .local) (hi : PE X iter te)
    (hg : Gl X "tuple") (hm : X.mg "tuple" = none) (hs : ∀ v, genFold iter X.env v = pure v)
    (he : starEach [.GeneratorExp elt [⟨.Name x px, iter, ifs, 0⟩] scope gpos] X.env = [(false, eval (.GeneratorExp elt [⟨.Name x px, iter, ifs, 0⟩] scope gpos) X.env)] := by rfl) :
    PE X (.Call (.Name "tuple" pn) [.GeneratorExp elt [⟨.Name x px, iter, ifs, 0⟩] scope gpos] [] cpos) (tTupG X P scope x ifs elt te) := by
  refine ⟨fun pins s σ H Q I h => ?_⟩
  refine wpAny_Call_Name_kw (ld_blt I hg hm boot_tup ?_)
  refine PyProof.Rows.callWith_type1 ?_ he (by rfl)
  rw [he]
  show wpAny _ _ (spliced ((false, eval (.GeneratorExp elt [⟨.Name x px, iter, ifs, 0⟩] scope gpos) X.env) :: backTo cpos ([] : List (Bool × Sem Value)))) _ _ s
  refine Calls.spliced_cons (gen1 (R := fun vs pz f H1 => vs.length ≤ sizeLine ∧ ∀ H2 q, GxR.Tabbed P H1 H2 → H2 q = none → Q (.ref q) (upd H2 q (.tup (gout vs.length pz f)))) hr TB hcode S hx hi hs I ?_ fun vs pz f H1 g s5 hR hG => Calls.spliced_nil (tuple_ready hG hR.1 hR.2))
  exact h

/-- tuple(e for k, x in enumerate(xs) if t) -/
def tTupE (X : Cx) (P : Addr) (scope : Scope) (xa xb : Str) (ifs : List Expr) (elt : Expr) (ta : TA) : TE := fun σ H Q => ta σ H fun ws H1 =>
  ∃ (a : Addr) (vs : List V) (pz : Nat → Bool) (f : Nat → V), ws = [.ref a] ∧ SqL X.K H1 a vs ∧ GxR.TabG H1 P ∧ GEltE X σ H1 P scope xa xb ifs elt vs pz f ∧ vs.length ≤ sizeLine ∧
    ∀ H2 q, GxR.Tabbed P H1 H2 → H2 q = none → Q (.ref q) (upd H2 q (.tup (gout vs.length pz f)))
theorem pe_tupE {c P : Addr} {elt e : Expr} {xa xb : Str} {pa pb pt pn pm cpos epos gpos : Pos} {kt : Nat} {ifs : List Expr} {scope : Scope} {ta : TA} {k : Nat}
    (hr : Room k X.A) (TB : GxR.TabB X.base X.mg c P) (hcode : X.env.code = .ref c) (S : GScp X.env scope) (hxa : scope.names.lookup xa = some .local) (hxb : scope.names.lookup xb = some .local) (hab : xa ≠ xb)
    (hge : Gl X "enumerate") (hme : X.mg "enumerate" = none) (ha : PA X [e] ta) (hg : Gl X "tuple") (hm : X.mg "tuple" = none)
    (hs : ∀ v, genFold (.Call (.Name "enumerate" pn) [e] [] epos) X.env v = pure v) (he1 : starEach [e] X.env = [(false, eval e X.env)] := by rfl)
    (he : starEach [.GeneratorExp elt [⟨.Tuple [.Name xa pa, .Name xb pb] kt pt, .Call (.Name "enumerate" pn) [e] [] epos, ifs, 0⟩] scope gpos] X.env = [(false, eval (.GeneratorExp elt [⟨.Tuple [.Name xa pa, .Name xb pb] kt pt, .Call (.Name "enumerate" pn) [e] [] epos, ifs, 0⟩] scope gpos) X.env)] := by rfl) :
    PE X (.Call (.Name "tuple" pm) [.GeneratorExp elt [⟨.Tuple [.Name xa pa, .Name xb pb] kt pt, .Call (.Name "enumerate" pn) [e] [] epos, ifs, 0⟩] scope gpos] [] cpos) (tTupE X P scope xa xb ifs elt ta) := by
  refine ⟨fun pins s σ H Q I h => ?_⟩
  refine wpAny_Call_Name_kw (ld_blt I hg hm boot_tup ?_)
  refine PyProof.Rows.callWith_type1 ?_ he (by rfl)
  rw [he]
  show wpAny _ _ (spliced ((false, eval (.GeneratorExp elt [⟨.Tuple [.Name xa pa, .Name xb pb] kt pt, .Call (.Name "enumerate" pn) [e] [] epos, ifs, 0⟩] scope gpos) X.env) :: backTo cpos ([] : List (Bool × Sem Value)))) _ _ s
  refine Calls.spliced_cons (genE (R := fun vs pz f H1 => vs.length ≤ sizeLine ∧ ∀ H2 q, GxR.Tabbed P H1 H2 → H2 q = none → Q (.ref q) (upd H2 q (.tup (gout vs.length pz f)))) hr TB hcode S hxa hxb hab hge hme ha he1 hs I ?_ fun vs pz f H1 g s5 hR hG => Calls.spliced_nil (tuple_ready hG hR.1 hR.2))
  exact h
end

/-! ### elements -/
section
variable {M : Model} {A : Around} {E : Value → Shared → Prop} {s : Shared} {cenv : Env} {x : Str} {p1 p2 p3 : Pos} {Q : Value → Shared → Prop}
theorem ld_own {m : Str → Option Value} {u : Value} (hk : cenv.scope.kind = .function) (hl : cenv.scope.names.lookup x = some .local) (hn : s.heap.Ns cenv.locals m) (hm : m x = some u) (hd : (x == ("__debug__" : Str)) = false) (h : Q u s) :
    wpAny M A (eval (.Name x p1) cenv) Q E s := wpAny_Name (wpAny_loadName_local hk hl hn hm h) hd
theorem ld_caught {c : Addr} {u : Value} (hk : cenv.scope.kind = .function) (hl : cenv.scope.names.lookup x = some .free) (hc : cenv.cells.lookup x = some c) (hv : s.heap.IsCell c (some u)) (hd : (x == ("__debug__" : Str)) = false) (hcd : (x == ("__classdict__" : Str)) = false) (h : Q u s) :
    wpAny M A (eval (.Name x p1) cenv) Q E s := wpAny_Name (wpAny_loadName_free hk hl hc hv h hcd) hd
end
/-- x - n over a tuple of ints, n the def's int in slot i -/
theorem gelt_sub {X : Cx} {σ : L2.St} {H : Hp} {P : Addr} {scope : Scope} {x n : Str} {i : Nat} {k : Int} {ns : List Int} {p1 p2 p3 : Pos}
    (hk : scope.kind = .function) (hx : scope.names.lookup x = some .local) (hn : scope.names.lookup n = some .free) (hnm : (n, NameKind.free) ∈ scope.names)
    (hN : X.N[i]? = some n) (hσ : σ[i]? = some (some (.int k))) (hv : X.env.scope.names.lookup n = some .cell ∨ X.env.scope.names.lookup n = some .free)
    (d1 : (x == ("__debug__" : Str)) = false) (d2 : (n == ("__debug__" : Str)) = false) (d3 : (n == ("__classdict__" : Str)) = false) :
    GElt X σ H P scope x [] (.BinOp (.Name x p1) .Sub (.Name n p2) p3) (ns.map V.int) (fun _ => true) (fun j => .int (ns.getD j 0 - k)) := by
  intro pins s I cenv A' E' j v u s₂ m₂ hsc hA hj r hns hm hc kp
  refine ⟨wpAny_tests_nil ⟨rfl, GxR.keeps_refl _⟩, fun _ => ?_⟩
  obtain ⟨c, w, hc1, hc2, r2⟩ := hc i n _ hN hσ hv hnm
  obtain ⟨t2, rfl⟩ := r2
  rw [List.getElem?_map] at hj
  obtain ⟨z, hz, rfl⟩ := Option.map_eq_some_iff.mp hj
  obtain ⟨t1, rfl⟩ := r
  refine wpAny_BinOp (ld_own (by rw [hsc]; exact hk) (by rw [hsc]; exact hx) hns hm d1 (ld_caught (by rw [hsc]; exact hk) (by rw [hsc]; exact hn) hc1 hc2 d2 d3 ?_))
  have ez : ns.getD j 0 = z := by
    rw [List.getD_eq_getElem?_getD, hz]
    rfl
  show wpAny _ _ _ (fun y s₃ => RelV (.int (ns.getD j 0 - k)) y ∧ Keeps s₂ s₃) _ _
  rw [ez]
  exact sub_int ⟨⟨_, rfl⟩, GxR.keeps_tok _ _⟩
/-- n + k if b, over enumerate of a list of bools, n the def's int in slot i -/
theorem gelt_marks {X : Cx} {σ : L2.St} {H : Hp} {P : Addr} {scope : Scope} {xa xb n : Str} {i : Nat} {k : Int} {bs : List Bool} {p1 p2 p3 p4 : Pos}
    (hk : scope.kind = .function) (hxa : scope.names.lookup xa = some .local) (hxb : scope.names.lookup xb = some .local) (hn : scope.names.lookup n = some .free) (hnm : (n, NameKind.free) ∈ scope.names)
    (hN : X.N[i]? = some n) (hσ : σ[i]? = some (some (.int k))) (hv : X.env.scope.names.lookup n = some .cell ∨ X.env.scope.names.lookup n = some .free)
    (d1 : (xa == ("__debug__" : Str)) = false) (d0 : (xb == ("__debug__" : Str)) = false) (d2 : (n == ("__debug__" : Str)) = false) (d3 : (n == ("__classdict__" : Str)) = false) :
    GEltE X σ H P scope xa xb [.Name xb p4] (.BinOp (.Name n p1) .Add (.Name xa p2) p3) (bs.map V.bl) (fun j => bs.getD j false) (fun j => .int (k + j)) := by
  intro pins s I cenv A' E' j t v u s₂ m₂ hsc hA hj r hns hma hmb hc kp
  obtain ⟨c, w, hc1, hc2, r2⟩ := hc i n _ hN hσ hv hnm
  obtain ⟨t2, rfl⟩ := r2
  rw [List.getElem?_map] at hj
  obtain ⟨b, hb, rfl⟩ := Option.map_eq_some_iff.mp hj
  have r' : u = Value.bool b := r
  subst r'
  have eb : bs.getD j false = b := by
    rw [List.getD_eq_getElem?_getD, hb]
    rfl
  refine ⟨wpAny_tests_one ?_, fun _ => ?_⟩
  · refine isTrue_plain (ld_own (by rw [hsc]; exact hk) (by rw [hsc]; exact hxb) hns hmb d0 ?_) rfl
    exact wpAny_truthy_bool ⟨eb.symm, GxR.keeps_refl _⟩
  · refine wpAny_BinOp (ld_caught (by rw [hsc]; exact hk) (by rw [hsc]; exact hn) hc1 hc2 d2 d3 (ld_own (by rw [hsc]; exact hk) (by rw [hsc]; exact hxa) hns hma d1 ?_))
    exact add_int ⟨⟨_, rfl⟩, GxR.keeps_tok _ _⟩
end Y1
set_option Elab.async false
set_option linter.all false
set_option maxRecDepth 100000
set_option maxHeartbeats 4000000
namespace Y2
open PySem PySem.Spec PyProof.Rows L2
section
variable {X : Cx}
/-- lcm(a, b) of positive ints -/
def rLcm : List V → Hp → VK → Prop := fun vs H Q => ∃ a b : Nat, vs = [.int a, .int b] ∧ a < 2 ^ 60 ∧ b < 2 ^ 60 ∧ Q (.int ((Nat.lcm a b : Nat) : Int)) H
theorem cr_lcm : CallR X (.builtin "math.lcm") rLcm := by
  intro pins s σ H vs us Q I r h
  obtain ⟨a, b, rfl, ha, hb, q⟩ := h
  obtain ⟨t, u, rfl⟩ := Vals.int2 r
  have e1 : (Nat.lcm 1 a) = a := by simp [Nat.lcm]
  have hl : a.lcm b < 2 ^ 120 := by
    refine Nat.lt_of_le_of_lt (show a.lcm b ≤ a * b from ?_) ?_
    · unfold Nat.lcm
      exact Nat.div_le_self _ _
    · calc a * b ≤ 2 ^ 60 * b := Nat.mul_le_mul_right _ (Nat.le_of_lt ha)
        _ < 2 ^ 60 * 2 ^ 60 := Nat.mul_lt_mul_of_pos_left hb (by decide)
        _ = 2 ^ 120 := by decide
  refine PySem.W.mg_lcm (a := (a : Int)) (b := (b : Int)) (by simpa using (show a < 2 ^ 64 by omega)) (by simpa using (show b < 2 ^ 64 by omega)) ?_ ?_
  · rw [show (((Nat.lcm 1 ((a : Int)).natAbs).lcm ((b : Int)).natAbs : Nat) : Int) = ((a.lcm b : Nat) : Int) by rw [Int.natAbs_natCast, Int.natAbs_natCast, e1]]
    rw [Int.natAbs_natCast]
    by_cases h0 : a.lcm b = 0
    · rw [h0]; decide
    · exact Nat.lt_trans ((Nat.log2_lt h0).mpr hl) (by decide)
  · rw [show (((Nat.lcm 1 ((a : Int)).natAbs).lcm ((b : Int)).natAbs : Nat) : Int) = ((a.lcm b : Nat) : Int) by rw [Int.natAbs_natCast, Int.natAbs_natCast, e1]]
    exact ⟨.int _, H, I.tok _, ⟨_, rfl⟩, q⟩
/-- repr of a truth value -/
def rReprB : List V → Hp → VK → Prop := fun vs H Q => ∃ b : Bool, vs = [.bl b] ∧ Q (.str (if b then "True" else "False")) H
theorem cr_reprB : CallR X (.builtin "repr") rReprB := by
  intro pins s σ H vs us Q I r h
  obtain ⟨b, rfl, q⟩ := h
  cases r with
  | cons r rr =>
    cases rr
    have r' := r
    cases r'
    exact PySem.P.repr_of_bool ⟨.str _, H, I.tok _, ⟨_, rfl⟩, q⟩
/-- max of a tuple of ints -/
def rMaxTu (K : PySem.W.Frag) : List V → Hp → VK → Prop := fun vs H Q => ∃ (a : Addr) (ns : List Int), vs = [V.ref a] ∧ SqT K H a (ns.map V.int) ∧ 0 < ns.length ∧ ∀ m, m ∈ ns → (∀ y, y ∈ ns → y ≤ m) → Q (.int m) H
theorem cr_maxTu (hc : X.calm = true) : CallR X (.builtin "max") (rMaxTu X.K) := by
  intro pins s σ H vs us Q I r h
  obtain ⟨a, ns, rfl, hs, hne, q⟩ := h
  obtain ⟨its, rv, ⟨ob, e1, e2, n1, e3⟩, _⟩ := I.tuple hs
  rw [Vals.ref1 r]
  have hl : s.heap.IsTuple a its.toArray := ⟨ob, e1, e2, n1, e3⟩
  have alt := Heap.lt_size e1
  have hn : its.length = ns.length := by rw [← rv.length, List.length_map]
  have hi := rv.ints
  have pu : ∀ b o, s.heap.get? b = some o → (s.heap.push { cls := .type "tuple_iterator", data := .fields #[.ref a, .int 0 0] }).get? b = some o := fun b o e => Heap.get?_push_of_some _ e
  refine call_max_walk (wpAny_pyIter_tuple hl ?_)
  refine ⟨_, _, _, _, _, _, _, rfl, Walks.tuple (A := X.A.in1) (I.ok.hd hc) s.heap.objs.size a (Nat.ne_of_lt alt) its.toArray, ⟨⟨_, Heap.get?_push_size _ rfl, rfl, rfl⟩, ⟨ob, pu _ _ e1, e2, n1, e3⟩⟩, ?_, ?_,
    CmpOf.ints_gt (fun i => ns.getD i 0) (fun i v hv => IntsAre.int_at hi i v (by simpa using hv)), fun v h' tk hP hk => ?_⟩
  · intro b hb
    rw [Heap.size_push]
    rcases List.mem_cons.mp hb with z | z
    · rw [z]; exact Nat.lt_succ_self _
    · rcases List.mem_cons.mp z with z | z
      · rw [z]; exact Nat.lt_succ_of_lt alt
      · cases z
  · rw [List.size_toArray, hn]; exact hne
  · obtain ⟨t, e⟩ := IntsAre.int_at hi _ v (by simpa using hP)
    obtain ⟨g1, g2⟩ := argBest_gt (fun i => ns.getD i 0) (its.toArray.size - 1)
    have hsz : its.toArray.size = ns.length := by rw [List.size_toArray, hn]
    subst e
    have J : Inv X pins σ H { s with heap := h', toks := tk } := I.kept fun b o e => hk b o (fun z => by
      rcases List.mem_cons.mp z with z | z
      · exact Nat.ne_of_lt (Heap.lt_size e) z
      · cases z) (pu b o e)
    refine ⟨.int _, H, J, ⟨_, rfl⟩, q _ ?_ fun y hy => ?_⟩
    · exact PySem.getD_mem (Nat.lt_of_le_of_lt g1 (by rw [hsz]; exact Nat.sub_lt hne Nat.one_pos))
    · obtain ⟨j, hj, rfl⟩ := mem_getD hy
      exact g2 j (by rw [hsz]; exact Nat.le_sub_one_of_lt hj)
end
/-! ### set(xs), xs a list of ints -/
abbrev newSet (w : World) : Obj := { cls := .type "set", dict := none, data := .set #[] 0 (.fresh 0 0 (!w.params.followText "set-order")) }
section
variable {P : Program} {w : World} {A : Around} {E : Value → Shared → Prop} {s : Shared}
theorem call_set_ints {l : Addr} {items : Array Value} (ns : List Int) {Q : Value → Shared → Prop} (hh : A.handled = none) (hl : s.heap.IsList l items) (hit : IntsAre items.toList ns) (hb : ns.length + 1 < scanBound)
    (h : ∀ (h' : Heap) (tk c : Nat), SetR w h' s.heap.objs.size (fun j => decide (j ∈ ns)) c → c ≤ ns.length → (∀ b o, s.heap.get? b = some o → h'.get? b = some o) → Q (.ref s.heap.objs.size) { s with heap := h', toks := tk }) :
    wpAny (model P w) A (call (.type "set") [.ref l]) Q E s := by
  have many : items.size = ns.length := by
    have q := IntsAre.length hit
    rw [Array.length_toList] at q
    exact q
  obtain ⟨c, tl, hmro⟩ := F.called_set.mro
  have g1 := F.called_set.made
  have g2 := F.called_set.sub
  refine wpAny_call (codeAny_of_tree ?_)
  show wpAny _ _ (callAny (.type "set") _) _ _ _
  refine wpAny_pure ⟨Code.quiet_builtin _ (by decide +kernel), codeAny_builtin F.entry_type_call ?_⟩
  rw [Around.under_plain (weight_type_call_type "set" [.ref l] []) rfl]
  have g3 := F.called_set.notType
  have g4 := F.called_set.canCreate
  have g5 := F.typeCall_set_1 (.ref l)
  repeat (any_goals (first | assumption | wp_step))
  refine codeAny_mono (code_set_led1 (.ref l) (E := E) (Q₁ := fun obj s₁ => obj = .ref s.heap.objs.size ∧ s₁ = { s with heap := s.heap.push (newSet w) }) ⟨rfl, rfl⟩) fun r s₁ hr => ?_
  cases r with
  | error e => exact hr
  | ok fl =>
    cases fl with
    | ret obj =>
      obtain ⟨rfl, rfl⟩ := hr
      have hS : (s.heap.push (newSet w)).get? s.heap.objs.size = some (newSet w) := Heap.get?_push_size _ rfl
      have hT : Shared.TypeIs { s with heap := s.heap.push (newSet w) } (.ref s.heap.objs.size) "set" := ⟨_, hS, rfl⟩
      have g6 := F.called_set.init.lookup
      have g7 := F.called_set.init.bind (.ref s.heap.objs.size)
      repeat (any_goals (first | assumption | wp_step))
      refine codeAny_mono (codeAny_call_builtin (R := wants (fun r s₂ => r = .none ∧ ∃ h' tk c, s₂ = { s with heap := h', toks := tk } ∧ SetR w h' s.heap.objs.size (fun j => decide (j ∈ ns)) c ∧ c ≤ ns.length ∧ (∀ b o, s.heap.get? b = some o → h'.get? b = some o)) E) F.called_set.init.plain F.entry_set_init (check_set_init_1 hT ?_)) fun r₂ s₂ hr₂ => ?_
      · obtain ⟨ol, hol, hcl, nl, hdl⟩ := hl
        obtain ⟨ocls, odict, odata, oslots⟩ := ol
        simp only at hcl hdl
        subst hcl; subst hdl
        have hol' : (s.heap.push (newSet w)).get? l = some { cls := .type "list", dict := odict, data := .seq items nl, slots := oslots } := Heap.get?_push_of_some _ hol
        have g8 := F.sub_list_set
        have g9 := F.sub_list_frozenset
        have hne : (Value.type "list" == Value.type "dict") = false := by decide
        have hl1 : (s.heap.push (newSet w)).IsList l items := ⟨_, hol', rfl, nl, rfl⟩
        unfold Builtin.«set.__init__» noKeywords Builtin.Frozenset.updateFrom
        generalize hPI : pyIter = PI
        wp_walk
        subst hPI
        refine wpAny_pyIter_list hl1 ?_
        refine wpAny_bind (wpAny_runValue ?_)
        have hlS : l < s.heap.objs.size := Heap.lt_size hol
        have hh3 : A.in1.in1.in1.handled = none := by simp [hh]
        have z1 : (s.heap.push (newSet w)).objs.size = s.heap.objs.size + 1 := Heap.size_push ..
        have hneI : l ≠ (s.heap.push (newSet w)).objs.size := by
          rw [z1]; exact Nat.ne_of_lt (Nat.lt_succ_of_lt hlS)
        have hSf : s.heap.objs.size ∉ [(s.heap.push (newSet w)).objs.size, l] := by
          rw [z1]
          intro z
          rcases List.mem_cons.mp z with z | z
          · exact Nat.ne_of_lt (Nat.lt_succ_self _) z
          · rcases List.mem_cons.mp z with z | z
            · exact Nat.ne_of_gt hlS z
            · cases z
        have hval : ∀ (i : Nat) (v : Value), items[i]? = some v → ∃ k t, ns[i]? = some k ∧ v = .int k t := fun i v hv => by
          obtain ⟨n, t, e1, e2⟩ := IntsAre.at hit i v (by rw [Array.getElem?_toList]; exact hv)
          exact ⟨n, t, e2, e1⟩
        refine set_update_ints ((Walks.list hh3 _ l hneI items).toS) s.heap.objs.size hSf ns many hb hval (items.size - 0) 0 _ (by omega) (Nat.zero_le _) ⟨⟨_, Heap.get?_push_size _ rfl, rfl, rfl⟩, (hl1.push _)⟩ ?hS0 ?hR
        case hS0 => exact ⟨0, Nat.le_refl 0, setR_new_at (Heap.get?_push_of_some _ hS)⟩
        case hR =>
          intro s' c' hm hc' hS'
          obtain ⟨h', g2', d', tk', os'⟩ := s'
          have eg : g2' = s.gens := hm.gens
          have ed : d' = s.drawn := hm.drawn
          have eo : os' = s.os := hm.os
          subst eg; subst ed; subst eo
          show wpAny _ _ _ _ _ _
          refine wpAny_pure ?_
          show wpAny _ _ (ret Value.none) _ _ _
          rw [many] at hc'
          refine wpAny_pure ⟨rfl, h', tk', c', rfl, hS', hc', fun b o e => ?_⟩
          have hb0 : b < s.heap.objs.size := Heap.lt_size e
          refine hm.heap b o (fun z => ?_) (Heap.get?_push_of_some _ (Heap.get?_push_of_some _ e))
          rcases List.mem_cons.mp z with z | z
          · exact Nat.ne_of_lt hb0 z
          · rcases List.mem_cons.mp z with z | z
            · rw [z1] at z; exact Nat.ne_of_lt (Nat.lt_succ_of_lt hb0) z
            · cases z
      · cases r₂ with
        | error e => exact hr₂
        | ok fl₂ =>
          cases fl₂ with
          | ret v =>
            obtain ⟨rfl, h', tk, c, rfl, k1, k2, k3⟩ := hr₂
            repeat (any_goals (first | assumption | wp_step))
            exact h h' tk c k1 k2 k3
          | _ => exact hr₂.elim
    | _ => exact hr.elim
end
section
variable {X : Cx}
def rSetL (K : PySem.W.Frag) (w : World) : List V → Hp → VK → Prop := fun xs H Q => ∃ (l : Addr) (ns : List Int), xs = [V.ref l] ∧ SqL K H l (ns.map V.int) ∧ ns.length ≤ 1000 ∧
  ∀ a c, H a = none → c ≤ ns.length → Q (.ref a) (upd H a (SetO w a (fun j => decide (j ∈ ns)) c))
theorem cr_setL (hc : X.calm = true) : CallR X (.type "set") (rSetL X.K X.w) := by
  intro pins s σ H vs us Q I r h
  obtain ⟨l, ns, rfl, hs, hn, q⟩ := h
  obtain ⟨its, rv, pl, _⟩ := I.list hs
  rw [Vals.ref1 r]
  have hb : ns.length + 1 < scanBound := by unfold scanBound; omega
  refine call_set_ints ns (I.ok.hd hc) pl.isList rv.ints hb fun h' tk c k1 k2 k3 => ?_
  have hf : H s.heap.objs.size = none := I.hok.fresh (Nat.le_refl _)
  exact ⟨.ref s.heap.objs.size, _, I.laid k3 (Nat.le_refl _) (setO_new k1), rfl, q _ c hf k2⟩
end
end Y2
set_option Elab.async false
set_option linter.all false
set_option maxRecDepth 100000
set_option maxHeartbeats 4000000
/-! frames between heaps; comprehensions whose items are flat; data -/
namespace Y3
open PySem PySem.Spec PyProof.Rows L2

def NoTbl (o : HO) : Prop := ∀ ps, o ≠ .tbl ps
/-- all that was tracked is as it was, but for S; tables may have grown -/
structure Ext (S : Addr → Prop) (H H' : Hp) : Prop where
  keep : ∀ b o, ¬ S b → H b = some o → NoTbl o → H' b = some o
  tup : ∀ b xs, H b = some (.tup xs) → H' b = some (.tup xs)
  tab : ∀ b, GxR.TabG H b → GxR.TabG H' b
  fre : ∀ b, H' b = none → H b = none
abbrev S0 : Addr → Prop := fun _ => False
abbrev Ex (H H' : Hp) : Prop := Ext S0 H H'
theorem Ext.refl {S : Addr → Prop} {H : Hp} : Ext S H H := ⟨fun _ _ _ h _ => h, fun _ _ h => h, fun _ h => h, fun _ h => h⟩
theorem Ext.trans {S : Addr → Prop} {H H1 H2 : Hp} (a : Ext S H H1) (b : Ext S H1 H2) : Ext S H H2 :=
  ⟨fun c o n h t => b.keep c o n (a.keep c o n h t) t, fun c xs h => b.tup c xs (a.tup c xs h), fun c h => b.tab c (a.tab c h), fun c h => a.fre c (b.fre c h)⟩
theorem Ext.mono {S S' : Addr → Prop} {H H' : Hp} (a : Ext S H H') (h : ∀ b, S b → S' b) : Ext S' H H' := ⟨fun b o n => a.keep b o fun z => n (h b z), a.tup, a.tab, a.fre⟩
theorem Ext.of0 {S : Addr → Prop} {H H' : Hp} (a : Ex H H') : Ext S H H' := a.mono fun _ z => z.elim
/-- a new object, or one that was not tracked ahead -/
theorem Ext.updN {S : Addr → Prop} {H H' : Hp} {p : Addr} {o : HO} (a : Ext S H H') (h : H p = none) : Ext S H (upd H' p o) := by
  refine ⟨fun b u n e t => ?_, fun b xs e => ?_, fun b ⟨ps, e, r⟩ => ?_, fun b e => ?_⟩
  · rw [upd_ne (ne_of_none e h)]; exact a.keep b u n e t
  · rw [upd_ne (ne_of_none e h)]; exact a.tup b xs e
  · obtain ⟨ps', e', r'⟩ := a.tab b ⟨ps, e, r⟩
    exact ⟨ps', by rw [upd_ne (ne_of_none e h)]; exact e', r'⟩
  · by_cases z : b = p
    · rw [z]; exact h
    · rw [upd_ne z] at e; exact a.fre b e
theorem Ext.upd1 {S : Addr → Prop} {H : Hp} {p : Addr} {o : HO} (h : H p = none) : Ext S H (upd H p o) := Ext.refl.updN h
/-- a thing of S is written -/
theorem Ext.updS {S : Addr → Prop} {H H' : Hp} {p : Addr} {o u : HO} (a : Ext S H H') (hS : S p) (h : H' p = some u) (hu : ∀ xs, u ≠ .tup xs) (ht : NoTbl u) : Ext S H (upd H' p o) := by
  refine ⟨fun b v n e t => ?_, fun b xs e => ?_, fun b hb => ?_, fun b e => ?_⟩
  · rw [upd_ne (fun z => n (by rw [z]; exact hS))]; exact a.keep b v n e t
  · have q := a.tup b xs e
    rw [upd_ne (fun z => by rw [z, h] at q; exact hu xs (Option.some.inj q))]; exact q
  · obtain ⟨ps', e', r'⟩ := a.tab b hb
    exact ⟨ps', by rw [upd_ne (fun z => by rw [z, h] at e'; exact ht ps' (Option.some.inj e'))]; exact e', r'⟩
  · by_cases z : b = p
    · rw [z, upd_same] at e; cases e
    · rw [upd_ne z] at e; exact a.fre b e
theorem Ext.ofTab {S : Addr → Prop} {P : Addr} {H H' : Hp} (h : GxR.Tabbed P H H') (hP : GxR.TabG H P) : Ext S H H' := by
  obtain ⟨ps, eP, _⟩ := hP
  have ne : ∀ b u, H b = some u → NoTbl u → b ≠ P := fun b u e t z => by
    rw [z, eP] at e
    exact t ps (Option.some.inj e).symm
  refine ⟨fun b o _ e t => by rw [h.2 b (ne b o e t)]; exact e, fun b xs e => by rw [h.2 b (ne b _ e fun ps z => by cases z)]; exact e, fun b hb => ?_, fun b e => ?_⟩
  by_cases z : b = P
  · rw [z]; exact h.1
  · obtain ⟨qs, e, r⟩ := hb
    exact ⟨qs, by rw [h.2 b z]; exact e, r⟩
  · by_cases z : b = P
    · obtain ⟨⟨qs, e2, _⟩, _⟩ := h
      rw [z, e2] at e; cases e
    · rw [h.2 b z] at e; exact e
theorem Ext.ofSame {S : Addr → Prop} {H H' : Hp} (h : ∀ b o, H b = some o → H' b = some o) : Ext S H H' := ⟨fun b o _ e _ => h b o e, fun b xs e => h b _ e, fun b ⟨ps, e, r⟩ => ⟨ps, h b _ e, r⟩, fun b e => by
  cases q : H b with
  | none => rfl
  | some o => rw [h b o q] at e; cases e⟩
theorem Ext.lst {S : Addr → Prop} {H H' : Hp} {b : Addr} {xs : List V} (a : Ext S H H') (n : ¬ S b) (h : H b = some (.lst xs)) : H' b = some (.lst xs) := a.keep b _ n h fun _ z => by cases z
theorem Ext.frz {S : Addr → Prop} {H H' : Hp} {b : Addr} {o : Obj} {u : HO} (a : Ext S H H') (n : ¬ S b) (h : H b = some (.frz o u)) : H' b = some (.frz o u) := a.keep b _ n h fun _ z => by cases z
theorem sqL_of {K : PySem.W.Frag} {H : Hp} {a : Addr} {xs : List V} (h : H a = some (.lst xs)) : SqL K H a xs := .inl (.inl h)
theorem sqT_of {K : PySem.W.Frag} {H : Hp} {a : Addr} {xs : List V} (h : H a = some (.tup xs)) : SqT K H a xs := .inl (.inl h)
theorem not0 {b : Addr} : ¬ S0 b := fun z => z

/-- a comprehension's state: what is made so far is told by A, all else by F -/
def CI (F : Hp → Prop) (A : Nat → List V → Prop) (D : Addr) : Nat → Hp → Prop := fun i H => F H ∧ ∃ acc, H D = some (.lst acc) ∧ A i acc
theorem CI.start {F : Hp → Prop} {A : Nat → List V → Prop} {D : Addr} {H1 : Hp} (h : F (upd H1 D (.lst []))) (a : A 0 []) : CI F A D 0 (upd H1 D (.lst [])) := ⟨h, [], upd_same, a⟩
theorem CI.put {F : Hp → Prop} {A : Nat → List V → Prop} {D : Addr} {H : Hp} {i : Nat} {acc : List V} {y : V} (hF : F H) (hD : H D = some (.lst acc)) (hu : ∀ o, F (upd H D o)) (hz : acc.length < sizeLine) (a : A (i + 1) (acc ++ [y])) :
    ∃ acc, H D = some (.lst acc) ∧ acc.length < sizeLine ∧ CI F A D (i + 1) (upd H D (.lst (acc ++ [y]))) := ⟨acc, hD, hz, hu _, _, upd_same, a⟩
theorem CI.skip {F : Hp → Prop} {A : Nat → List V → Prop} {D : Addr} {H : Hp} {i : Nat} {acc : List V} (hF : F H) (hD : H D = some (.lst acc)) (a : A (i + 1) acc) : CI F A D (i + 1) H := ⟨hF, acc, hD, a⟩
theorem few {n : Nat} (h : n ≤ 1000000) : n < sizeLine := Nat.lt_of_le_of_lt h (by decide)
theorem few' {n : Nat} (h : n ≤ 1000000) : n ≤ sizeLine := Nat.le_of_lt (few h)

/-! ### data -/
theorem dpInts {K : PySem.W.Frag} {H : Hp} : ∀ ns : List Int, DpAll K H (ns.map V.int) (ns.map PyData.int)
  | [] => .nil
  | n :: ns => .cons (.int n) (dpInts ns)
theorem dpBls {K : PySem.W.Frag} {H : Hp} : ∀ bs : List Bool, DpAll K H (bs.map V.bl) (bs.map PyData.bool)
  | [] => .nil
  | b :: bs => .cons (.bl b) (dpBls bs)
theorem dpL {K : PySem.W.Frag} {H : Hp} {a : Addr} {ns : List Int} (h : SqL K H a (ns.map V.int)) : Dp K H (.ref a) (.list (ns.map PyData.int)) := .lst h (dpInts ns)
theorem dpT {K : PySem.W.Frag} {H : Hp} {a : Addr} {ns : List Int} (h : SqT K H a (ns.map V.int)) : Dp K H (.ref a) (.tuple (ns.map PyData.int)) := .tup h (dpInts ns)
theorem dpB {K : PySem.W.Frag} {H : Hp} {a : Addr} {bs : List Bool} (h : SqL K H a (bs.map V.bl)) : Dp K H (.ref a) (.list (bs.map PyData.bool)) := .lst h (dpBls bs)
theorem shL (ns : List Int) : SeqAt.shaped (.list (ns.map PyData.int)) = true := PySem.W.ke_shaped_ints ns
theorem lay_bls : ∀ bs : List Bool, PyData.canLayAll0 (bs.map PyData.bool) = true ∧ PyData.depthAll (bs.map PyData.bool) = 0
  | [] => ⟨rfl, rfl⟩
  | n :: ns => by
    have ih := lay_bls ns
    exact ⟨by simp [PyData.canLayAll0, PyData.canLay0, ih.1], by simp [PyData.depthAll, PyData.depth, ih.2]⟩
theorem shT (ns : List Int) : SeqAt.shaped (.tuple (ns.map PyData.int)) = true := by
  simp [SeqAt.shaped, PyData.canLay0, PyData.depth, PySem.W.ke_canLayAll0, PySem.W.ke_depthAll]
theorem shB (bs : List Bool) : SeqAt.shaped (.list (bs.map PyData.bool)) = true := by
  have h := lay_bls bs
  simp [SeqAt.shaped, PyData.canLay0, PyData.depth, h.1, h.2]
theorem eqvI (ns ms : List Int) : PyData.eqvAll (ns.map PyData.int) (ms.map PyData.int) = decide (ns = ms) := PySem.W.ked_eqvAll ns ms
theorem eqvB : ∀ bs cs : List Bool, PyData.eqvAll (bs.map PyData.bool) (cs.map PyData.bool) = decide (bs = cs)
  | [], [] => by simp [PyData.eqvAll]
  | [], _ :: _ => by simp [PyData.eqvAll]
  | _ :: _, [] => by simp [PyData.eqvAll]
  | b :: bs, c :: cs => by
    rw [List.map_cons, List.map_cons, PyData.eqvAll, eqvB bs cs, PyData.eqv]
    by_cases h1 : b = c <;> by_cases h2 : bs = cs <;> simp [h1, h2]
theorem tYes_ok {σ : L2.St} {H : Hp} {A B : Hp → Prop} (h : A H) : tYes σ H (fun b H3 => if b = true then A H3 else B H3) := by
  show if true = true then A H else B H
  rw [if_pos rfl]
  exact h
/-- [f i for the i-th item if p i], one name in slot k; the heap grows at most -/
theorem lcG {J : It} {n : Nat} {G : Hp → Prop} {Y : Nat → Hp → V → Hp → Prop} (w : Walk J n G Y) {item : Nat → V} {H1 : Hp} {D : Addr} {k : Nat} {tt : TT} {te : TE} {σ : L2.St} {Qd : Hp → Prop} (p : Nat → Bool) (f : Nat → V)
    (nD : H1 D = none) (hn : n ≤ 1000000) (hY : ∀ i H x H', i < n → Y i H x H' → H' = H ∧ x = item i) (hG : ∀ H, Ex H1 H → G H)
    (ht : ∀ (i : Nat) (H2 : Hp) (Q : Bool → Hp → Prop), i < n → Ex H1 H2 → (∀ H3, Ex H2 H3 → Q (p i) H3) → tt ((σ.set k none).set k (some (item i))) H2 Q)
    (he : ∀ (i : Nat) (H2 : Hp) (Q : VK), i < n → p i = true → Ex H1 H2 → (∀ H3, Ex H2 H3 → Q (f i) H3) → te ((σ.set k none).set k (some (item i))) H2 Q)
    (hd : ∀ H', Ex H1 H' → H' D = some (.lst (((List.range n).filter p).map f)) → Qd H') :
    ∃ W : Nat → Nat → Hp → Prop, (∃ m, W 0 m (upd H1 D (.lst []))) ∧ ∀ i m H, W i m H →
      (J.stop i H ∧ Qd H) ∨ (J.go i H ∧ ∃ Nx : Hp → Prop, (∀ H', Nx H' → ∃ m', m' < m ∧ W (i + 1) m' H') ∧ ∀ x H', J.yld i H x H' → gName k x (wipe σ [k]) H' fun σ2 H2 => wipe σ2 [k] = wipe σ [k] ∧ tt σ2 H2 fun b H3 =>
        if b = true then te σ2 H3 fun y H4 => ∃ acc, H4 D = some (.lst acc) ∧ acc.length < sizeLine ∧ Nx (upd H4 D (.lst (acc ++ [y]))) else Nx H3) := by
  refine lc_it w (CI (fun H' => Ex H1 H') (fun i acc => acc = ((List.range i).filter p).map f) D) (CI.start (Ext.upd1 nD) rfl) (fun i H _ h => hG H h.1) (fun i x H H' hi h y => ?_) (fun H h => ?_)
  · obtain ⟨e1, acc, hD, ha⟩ := h
    obtain ⟨rfl, rfl⟩ := hY i H x H' hi y
    refine ⟨?_, ht i _ _ hi e1 fun H3 e3 => ?_⟩
    · show ((σ.set k none).set k (some (item i))).set k none = σ.set k none
      rw [List.set_set, List.set_set]
    · have e13 := e1.trans e3
      have hD3 : H3 D = some (.lst acc) := e3.lst not0 hD
      by_cases hp : p i = true
      · rw [if_pos hp]
        refine he i H3 _ hi hp e13 fun H4 e4 => CI.put (e13.trans e4) (e4.lst not0 hD3) (fun o => (e13.trans e4).updN nD) ?_ ?_
        · rw [ha, List.length_map]
          exact few (Nat.le_trans (List.length_filter_le _ _) (by rw [List.length_range]; omega))
        · rw [ha, List.range_succ, List.filter_append, List.map_append]
          congr 1
          rw [List.filter_cons_of_pos hp]
          rfl
      · rw [if_neg hp]
        refine CI.skip e13 hD3 ?_
        rw [ha, List.range_succ, List.filter_append, List.filter_cons_of_neg hp, List.filter_nil, List.append_nil]
  · obtain ⟨e1, acc, hD, ha⟩ := h
    exact hd H e1 (by rw [← ha]; exact hD)
theorem filt_true {n : Nat} : (List.range n).filter (fun _ => true) = List.range n := List.filter_eq_self.mpr fun _ _ => rfl
/-- no test -/
theorem tY {σ : L2.St} {H : Hp} {Q : Bool → Hp → Prop} (h : ∀ H3, Ex H H3 → Q true H3) : tYes σ H Q := h H Ext.refl
end Y3
set_option Elab.async false
set_option linter.all false
set_option maxRecDepth 100000
set_option maxHeartbeats 4000000
/-! list(zip(xs, ys)) of two lists: the pairs are new tuples -/
namespace ZL
open PySem PySem.Spec PyProof.Rows L2

/-- the zip whose last pair stands at a -/
abbrev ZOut (h : Heap) (z TI TO a : Addr) (f : Bool) : Prop :=
  h.get? z = some { cls := .type "zip", dict := none, data := .fields #[rawInt a, .bool f, .bool false, .ref TI, .ref TO], slots := #[] }

section
variable {prog : Program} {w : World} {A : Around} {E : Value → Shared → Prop} {s : Shared}
variable {z TI TO i1 i2 l1 l2 a : Addr} {k1 k2 : Nat} {xs ys : Array Value} {x y : Value} {oa : Obj}

theorem free_out {f : Bool} {Q : Bool → Shared → Prop} (hz : ZOut s.heap z TI TO a f) (ha : s.heap.get? a = some oa)
    (hQ : ∀ h', ZOut h' z TI TO a true → Heap.SameBut z s.heap h' → Q false { s with heap := h' }) :
    wpAny (model prog w) A (Builtin.SmallTypes.ownedTupleIsFree (.ref z)) Q E s := by
  unfold Builtin.SmallTypes.ownedTupleIsFree
  refine wpAny_bind (wpAny_field hz rfl (x := rawInt a) rfl ?_)
  show wpAny _ _ (loadIfAlive ((a : Int).toNat) >>= _) _ _ _
  rw [Int.toNat_natCast]
  refine wpAny_bind (PySem.W.kdx_alive ha ?_)
  simp only [Option.isNone_some, Bool.false_eq_true, if_false]
  refine wpAny_bind (wpAny_field hz rfl (x := .bool f) rfl ?_)
  cases f with
  | true =>
    rw [if_neg (show ¬ ((Value.bool true != Value.bool true) = true) from Bool.false_ne_true)]
    exact wpAny_pure (hQ _ hz (Heap.SameBut.refl _ _))
  | false =>
    rw [if_pos (show (Value.bool false != Value.bool true) = true from rfl)]
    refine wpAny_bind (wpAny_setField_rec hz (by simp) fun h₃ he₃ hs₃ => ?_)
    exact wpAny_pure (hQ h₃ he₃ hs₃)

/-- one more pair, the one ahead still held by somebody -/
theorem next_out {f : Bool} {Q : Option Value → Shared → Prop} (D : ZipApart z TI TO i1 i2 l1 l2)
    (hz : ZOut s.heap z TI TO a f) (ha : s.heap.get? a = some oa) (hTI : IsPair s.heap TI (.ref i1) (.ref i2))
    (h1 : s.heap.IsListIter i1 l1 k1) (h2 : s.heap.IsListIter i2 l2 k2) (hl1 : s.heap.IsList l1 xs) (hl2 : s.heap.IsList l2 ys) (hx : xs[k1]? = some x) (hy : ys[k2]? = some y)
    (hQ : ∀ h', ZOut h' z TI TO a true → h'.IsListIter i1 l1 (k1 + 1) → h'.IsListIter i2 l2 (k2 + 1) → IsPair h' s.heap.objs.size x y → h'.objs.size = s.heap.objs.size + 1 →
      (∀ c o, c ≠ z → c ≠ i1 → c ≠ i2 → s.heap.get? c = some o → h'.get? c = some o) → Q (some (.ref s.heap.objs.size)) { s with heap := h' }) :
    wpAny (model prog w) A (pyNext (.ref z)) Q E s := by
  have hT : s.TypeIs (.ref z) "zip" := ⟨_, hz, rfl⟩
  unfold pyNext
  refine wpAny_bind (wpAny_attempt (wpAny_callSpecial?_slot (name := Str.ofString "__next__") hT F.slot_zip_next
    (wpAny_call_entry F.slot_zip_next hT F.entry_zip_next ?_ (F.args_zip_next_1 _))))
  show wpAny _ _ (field (.ref z) 2 >>= _) _ _ _
  refine wpAny_bind (wpAny_field hz rfl (x := .bool false) rfl ?_)
  show wpAny _ _ (field (.ref z) 3 >>= _) _ _ _
  refine wpAny_bind (wpAny_field hz rfl (x := .ref TI) rfl ?_)
  refine wpAny_bind (wpAny_seqItems hTI rfl ?_)
  show wpAny _ _ (Builtin.SmallTypes.ownedTupleIsFree (.ref z) >>= _) _ _ _
  refine wpAny_bind (free_out hz ha fun h₁ hz₁ hs₁ => ?_)
  simp only [Bool.false_eq_true, if_false]
  have hTI₁ : IsPair h₁ TI (.ref i1) (.ref i2) := hs₁.extBut _ _ D.TIz hTI
  simp only [List.forIn_toArray, List.forIn_cons, List.forIn_nil]
  refine wpAny_bind (wpAny_bind (wpAny_bind (wpAny_holding ?_)))
  show wpAny _ _ (Builtin.SmallTypes.nextOf (.ref i1) >>= _) _ _ _
  refine wpAny_bind (wpAny_nextOf_list_item (h1.extBut hs₁.extBut D.i1z) (hl1.extBut hs₁.extBut D.l1z) hx fun h₂ h1₂ hs₂ => wpAny_pure (wpAny_pure ?_))
  refine wpAny_bind (wpAny_bind (wpAny_holding ?_))
  show wpAny _ _ (Builtin.SmallTypes.nextOf (.ref i2) >>= _) _ _ _
  refine wpAny_bind (wpAny_nextOf_list_item ((h2.extBut hs₁.extBut D.i2z).extBut hs₂.extBut D.i12.symm) ((hl2.extBut hs₁.extBut D.l2z).extBut hs₂.extBut D.l2i1) hy fun h₃ h2₃ hs₃ => wpAny_pure (wpAny_pure (wpAny_pure ?_)))
  refine wpAny_bind (wpAny_newTuple ?_ (by show 2 ≤ sizeLine; decide))
  have hsz : h₃.objs.size = s.heap.objs.size := by rw [hs₃.1, hs₂.1, hs₁.1]
  have up : ∀ c o, c ≠ z → c ≠ i1 → c ≠ i2 → s.heap.get? c = some o → h₃.get? c = some o := fun c o c1 c2 c3 e => hs₃.extBut _ _ c3 (hs₂.extBut _ _ c2 (hs₁.extBut _ _ c1 e))
  have hz₃ : ZOut h₃ z TI TO a true := hs₃.extBut _ _ D.i2z.symm (hs₂.extBut _ _ D.i1z.symm hz₁)
  have p₃ : ∀ c o, h₃.get? c = some o → (h₃.push { cls := .type "tuple", data := .seq #[x, y] }).get? c = some o := fun c o e => Heap.get?_push_of_some _ e
  have new : IsPair (h₃.push { cls := .type "tuple", data := .seq #[x, y] }) s.heap.objs.size x y := by
    rw [← hsz]
    exact Heap.get?_push_size _ rfl
  refine wpAny_pure ⟨_, rfl, wpAny_pure ?_⟩
  show Q (some (.ref h₃.objs.size)) _
  rw [hsz]
  exact hQ _ (p₃ _ _ hz₃) ((h1₂.extBut hs₃.extBut D.i12).at fun o e => p₃ _ o e) (h2₃.at fun o e => p₃ _ o e) new (by rw [Heap.size_push, hsz]) fun c o c1 c2 c3 e => p₃ _ _ (up c o c1 c2 c3 e)

/-- no more pairs -/
theorem end_out {f : Bool} {Q : Option Value → Shared → Prop} (hh : A.handled = none) (D : ZipApart z TI TO i1 i2 l1 l2)
    (hz : ZOut s.heap z TI TO a f) (ha : s.heap.get? a = some oa) (hTI : IsPair s.heap TI (.ref i1) (.ref i2))
    (h1 : s.heap.IsListIter i1 l1 k1) (h2 : s.heap.IsListIter i2 l2 k2) (hl1 : s.heap.IsList l1 xs) (hl2 : s.heap.IsList l2 ys) (hend : xs[k1]? = none ∨ ys[k2]? = none)
    (hQ : ∀ h', (∀ c o, c ≠ z → c ≠ i1 → c ≠ i2 → s.heap.get? c = some o → h'.get? c = some o) → Q none { s with heap := h' }) :
    wpAny (model prog w) A (pyNext (.ref z)) Q E s := by
  have hT : s.TypeIs (.ref z) "zip" := ⟨_, hz, rfl⟩
  have stop : ∀ (h' : Heap) (e : Addr), (∃ o, h'.get? e = some o ∧ o.cls = .type "StopIteration") → (∀ c o, c ≠ z → c ≠ i1 → c ≠ i2 → s.heap.get? c = some o → h'.get? c = some o) →
      wpAny (model prog w) A (do let b ← isInstance (.ref e) (.type "StopIteration"); if b = true then pure none else throw (.ref e)) Q E { s with heap := h' } := fun h' e he kp => by
    obtain ⟨o, ho, hc⟩ := he
    refine wpAny_bind (wpAny_isInstance (T := "StopIteration") (b := true) ⟨o, ho, hc⟩ isSubtype_stop ?_)
    exact wpAny_pure (hQ h' kp)
  unfold pyNext
  refine wpAny_bind (wpAny_attempt (wpAny_callSpecial?_slot (name := Str.ofString "__next__") hT F.slot_zip_next
    (wpAny_call_entry F.slot_zip_next hT F.entry_zip_next ?_ (F.args_zip_next_1 _))))
  show wpAny _ _ (field (.ref z) 2 >>= _) _ _ _
  refine wpAny_bind (wpAny_field hz rfl (x := .bool false) rfl ?_)
  show wpAny _ _ (field (.ref z) 3 >>= _) _ _ _
  refine wpAny_bind (wpAny_field hz rfl (x := .ref TI) rfl ?_)
  refine wpAny_bind (wpAny_seqItems hTI rfl ?_)
  show wpAny _ _ (Builtin.SmallTypes.ownedTupleIsFree (.ref z) >>= _) _ _ _
  refine wpAny_bind (free_out hz ha fun h₁ hz₁ hs₁ => ?_)
  simp only [Bool.false_eq_true, if_false]
  simp only [List.forIn_toArray, List.forIn_cons, List.forIn_nil]
  refine wpAny_bind (wpAny_bind (wpAny_bind (wpAny_holding ?_)))
  show wpAny _ _ (Builtin.SmallTypes.nextOf (.ref i1) >>= _) _ _ _
  cases hx : xs[k1]? with
  | none =>
    refine wpAny_bind (wpAny_nextOf_list_end hh (h1.extBut hs₁.extBut D.i1z) (hl1.extBut hs₁.extBut D.l1z) hx fun h₂ e hs₂ he => ?_)
    exact stop h₂ e he fun c o c1 c2 c3 q => hs₂ _ _ c2 (hs₁.extBut _ _ c1 q)
  | some x =>
    have hy : ys[k2]? = none := by
      rcases hend with h | h
      · rw [hx] at h; cases h
      · exact h
    refine wpAny_bind (wpAny_nextOf_list_item (h1.extBut hs₁.extBut D.i1z) (hl1.extBut hs₁.extBut D.l1z) hx fun h₂ h1₂ hs₂ => wpAny_pure (wpAny_pure ?_))
    refine wpAny_bind (wpAny_bind (wpAny_holding ?_))
    show wpAny _ _ (Builtin.SmallTypes.nextOf (.ref i2) >>= _) _ _ _
    refine wpAny_bind (wpAny_nextOf_list_end hh ((h2.extBut hs₁.extBut D.i2z).extBut hs₂.extBut D.i12.symm) ((hl2.extBut hs₁.extBut D.l2z).extBut hs₂.extBut D.l2i1) hy fun h₃ e hs₃ he => ?_)
    exact stop h₃ e he fun c o c1 c2 c3 q => hs₃ _ _ c3 (hs₂.extBut _ _ c2 (hs₁.extBut _ _ c1 q))
end

/-- between two pairs: k taken, S the list that they go to -/
structure ZSt (h : Heap) (z TI TO i1 i2 l1 l2 S : Addr) (xs ys : Array Value) (k : Nat) : Prop where
  ti : IsPair h TI (.ref i1) (.ref i2)
  it1 : h.IsListIter i1 l1 k
  it2 : h.IsListIter i2 l2 k
  li1 : h.IsList l1 xs
  li2 : h.IsList l2 ys
  st : (IsZip h z TI TO .none ∧ ∃ a b, IsPair h TO a b) ∨ ∃ (a : Addr) (f : Bool) (oa : Obj), ZOut h z TI TO a f ∧ h.get? a = some oa ∧ a ≠ z ∧ a ≠ i1 ∧ a ≠ i2 ∧ a ≠ S
/-- S stands apart from all of the zip's -/
structure SApart (S z TI TO i1 i2 l1 l2 : Addr) : Prop where
  z : z ≠ S
  ti : TI ≠ S
  t_o : TO ≠ S
  i1 : i1 ≠ S
  i2 : i2 ≠ S
  l1 : l1 ≠ S
  l2 : l2 ≠ S
theorem ZSt.keep {h h' : Heap} {z TI TO i1 i2 l1 l2 S : Addr} {xs ys : Array Value} {k : Nat} (x : ZSt h z TI TO i1 i2 l1 l2 S xs ys k) (P : SApart S z TI TO i1 i2 l1 l2)
    (hk : ∀ b o, b ≠ S → h.get? b = some o → h'.get? b = some o) : ZSt h' z TI TO i1 i2 l1 l2 S xs ys k := by
  obtain ⟨a1, a2, a3, a4, a5, a6⟩ := x
  refine ⟨hk _ _ P.ti a1, a2.at fun o e => hk _ o P.i1 e, a3.at fun o e => hk _ o P.i2 e, a4.at fun o e => hk _ o P.l1 e, a5.at fun o e => hk _ o P.l2 e, ?_⟩
  rcases a6 with ⟨q, a, b, r⟩ | ⟨a, f, oa, q, ha, n1, n2, n3, n4⟩
  · exact .inl ⟨hk _ _ P.z q, a, b, hk _ _ P.t_o r⟩
  · exact .inr ⟨a, f, oa, hk _ _ P.z q, hk _ _ n4 ha, n1, n2, n3, n4⟩
section
variable {prog : Program} {w : World} {A : Around} {E : Value → Shared → Prop} {s : Shared}
variable {z TI TO i1 i2 l1 l2 S : Addr} {k : Nat} {xs ys : Array Value} {x y : Value}
theorem ZSt.lt (st : ZSt s.heap z TI TO i1 i2 l1 l2 S xs ys k) : z < s.heap.objs.size ∧ i1 < s.heap.objs.size ∧ i2 < s.heap.objs.size := by
  obtain ⟨_, ⟨_, e1, _⟩, ⟨_, e2, _⟩, _, _, a6⟩ := st
  refine ⟨?_, Heap.lt_size e1, Heap.lt_size e2⟩
  rcases a6 with ⟨q, _⟩ | ⟨_, _, _, q, _⟩
  · exact Heap.lt_size q
  · exact Heap.lt_size q
theorem st_item {Q : Option Value → Shared → Prop} (D : ZipApart z TI TO i1 i2 l1 l2) (st : ZSt s.heap z TI TO i1 i2 l1 l2 S xs ys k) (hS : S < s.heap.objs.size) (hx : xs[k]? = some x) (hy : ys[k]? = some y)
    (hQ : ∀ h', ZSt h' z TI TO i1 i2 l1 l2 S xs ys (k + 1) → IsPair h' s.heap.objs.size x y → h'.objs.size = s.heap.objs.size + 1 →
      (∀ c o, c ≠ z → c ≠ TO → c ≠ i1 → c ≠ i2 → s.heap.get? c = some o → h'.get? c = some o) → Q (some (.ref s.heap.objs.size)) { s with heap := h' }) :
    wpAny (model prog w) A (pyNext (.ref z)) Q E s := by
  obtain ⟨zl, il1, il2⟩ := st.lt
  obtain ⟨a1, a2, a3, a4, a5, a6⟩ := st
  rcases a6 with ⟨q, a, b, r⟩ | ⟨a, f, oa, q, ha, n1, n2, n3, n4⟩
  · refine wpAny_pyNext_zip_item D q a1 r a2 a3 a4 a5 hx hy fun h' b1 b2 b3 b4 b5 b6 b7 => ?_
    refine hQ h' ⟨b7 _ _ D.TIz D.TITO D.TIi1 D.TIi2 a1, b3, b4, a4.at fun o e => b7 _ o D.l1z D.l1TO D.l1i1 D.l1i2 e, a5.at fun o e => b7 _ o D.l2z D.l2TO D.l2i1 D.l2i2 e, ?_⟩ b5 b6 b7
    exact .inr ⟨_, false, _, b1, b5, Nat.ne_of_gt zl, Nat.ne_of_gt il1, Nat.ne_of_gt il2, Nat.ne_of_gt hS⟩
  · refine next_out D q ha a1 a2 a3 a4 a5 hx hy fun h' b1 b3 b4 b5 b6 b7 => ?_
    refine hQ h' ⟨b7 _ _ D.TIz D.TIi1 D.TIi2 a1, b3, b4, a4.at fun o e => b7 _ o D.l1z D.l1i1 D.l1i2 e, a5.at fun o e => b7 _ o D.l2z D.l2i1 D.l2i2 e, ?_⟩ b5 b6 fun c o c1 _ c3 c4 e => b7 c o c1 c3 c4 e
    exact .inr ⟨a, true, oa, b1, b7 _ _ n1 n2 n3 ha, n1, n2, n3, n4⟩
theorem st_done {Q : Option Value → Shared → Prop} (hh : A.handled = none) (D : ZipApart z TI TO i1 i2 l1 l2) (st : ZSt s.heap z TI TO i1 i2 l1 l2 S xs ys k) (hend : xs[k]? = none ∨ ys[k]? = none)
    (hQ : ∀ h', (∀ c o, c ≠ z → c ≠ TO → c ≠ i1 → c ≠ i2 → s.heap.get? c = some o → h'.get? c = some o) → Q none { s with heap := h' }) :
    wpAny (model prog w) A (pyNext (.ref z)) Q E s := by
  obtain ⟨a1, a2, a3, a4, a5, a6⟩ := st
  rcases a6 with ⟨q, a, b, r⟩ | ⟨a, f, oa, q, ha, n1, n2, n3, n4⟩
  · exact wpAny_pyNext_zip_end hh D q a1 r a2 a3 a4 a5 hend hQ
  · exact end_out hh D q ha a1 a2 a3 a4 a5 hend fun h' kp => hQ h' fun c o c1 _ c3 c4 e => kp c o c1 c3 c4 e
end
/-- the pairs made so far, at ts, above lo -/
structure ZG (xs ys : Array Value) (lo : Addr) (h : Heap) (ts : List Addr) : Prop where
  rise : ts.Pairwise (· < ·)
  above : ∀ t ∈ ts, lo < t
  pairs : ∀ (j : Nat) (t : Addr), ts[j]? = some t → ∃ x y, xs[j]? = some x ∧ ys[j]? = some y ∧ IsPair h t x y
theorem ZG.there {xs ys : Array Value} {lo : Addr} {h : Heap} {ts : List Addr} (g : ZG xs ys lo h ts) {t : Addr} (ht : t ∈ ts) : t < h.objs.size := by
  obtain ⟨j, hj⟩ := List.mem_iff_getElem?.mp ht
  obtain ⟨_, _, _, _, e⟩ := g.pairs j t hj
  exact Heap.lt_size e
section
variable {prog : Program} {w : World} {A : Around} {s : Shared} {R : Result → Shared → Prop}
variable {z TI TO i1 i2 l1 l2 S : Addr} {xs ys : Array Value}
theorem zl_loop {lo : Addr} (hh : A.handled = none) (D : ZipApart z TI TO i1 i2 l1 l2) (P : SApart S z TI TO i1 i2 l1 l2) (res : Value) {n : Nat} (hn : n = min xs.size ys.size) (hz : n ≤ sizeLine)
    (hlo : z ≤ lo ∧ TO ≤ lo ∧ i1 ≤ lo ∧ i2 ≤ lo ∧ S ≤ lo) {h₁ : Heap}
    (hR : ∀ h' tk acc c ts, (∀ b o, b ≠ S → b ≠ z → b ≠ TO → b ≠ i1 → b ≠ i2 → h₁.get? b = some o → h'.get? b = some o) → h'.get? S = some { cls := .type "list", dict := none, data := .seq acc c, slots := #[] } → ts.length = n → ZG xs ys lo h' ts →
      acc.toList = ts.map Value.ref → R (.ok (.ret res)) { s with heap := h', toks := tk }) :
    ∀ (m i : Nat) (h : Heap) (tk c : Nat) (acc : Array Value) (ts : List Addr), n - i = m → i ≤ n → ZSt h z TI TO i1 i2 l1 l2 S xs ys i → (∀ b o, b ≠ S → b ≠ z → b ≠ TO → b ≠ i1 → b ≠ i2 → h₁.get? b = some o → h.get? b = some o) →
      h.get? S = some { cls := .type "list", dict := none, data := .seq acc c, slots := #[] } → acc.toList = ts.map Value.ref → ts.length = i → ZG xs ys lo h ts → lo < h.objs.size →
      codeAny (model prog w) A (.builtin "list.extend.loop" ⟨[.ref S, .ref z, res], []⟩) R { s with heap := h, toks := tk } := by
  obtain ⟨z1, z2, z3, z4, z5⟩ := hlo
  have off : ∀ {t : Addr}, lo < t → t ≠ S ∧ t ≠ z ∧ t ≠ TO ∧ t ≠ i1 ∧ t ≠ i2 := fun h =>
    ⟨Nat.ne_of_gt (Nat.lt_of_le_of_lt z5 h), Nat.ne_of_gt (Nat.lt_of_le_of_lt z1 h), Nat.ne_of_gt (Nat.lt_of_le_of_lt z2 h), Nat.ne_of_gt (Nat.lt_of_le_of_lt z3 h), Nat.ne_of_gt (Nat.lt_of_le_of_lt z4 h)⟩
  intro m
  induction m with
  | zero =>
    intro i h tk c acc ts hk hi hst hkeep hS hacc hal hG hlt
    have hin : i = n := by omega
    refine codeAny_builtin PySem.F.entry_extend_loop ?_
    rw [Around.under_plainId PySem.F.plain_extend_loop _]
    show wpAny _ A.in1 (pyNext (.ref z) >>= _) _ _ _
    refine wpAny_bind (st_done (s := { s with heap := h, toks := tk }) (A := A.in1) hh D hst ?_ fun h' he => ?_)
    · rcases Nat.le_total xs.size ys.size with q | q
      · exact .inl (Array.getElem?_eq_none (by omega))
      · exact .inr (Array.getElem?_eq_none (by omega))
    · refine wpAny_pure (hR h' tk acc c ts (fun b o b1 b2 b3 b4 b5 e => he b o b2 b3 b4 b5 (hkeep b o b1 b2 b3 b4 b5 e)) (he S _ (Ne.symm P.z) (Ne.symm P.t_o) (Ne.symm P.i1) (Ne.symm P.i2) hS) (by omega) ⟨hG.rise, hG.above, fun j t hj => ?_⟩ hacc)
      obtain ⟨x, y, e1, e2, e3⟩ := hG.pairs j t hj
      obtain ⟨o1, o2, o3, o4, o5⟩ := off (hG.above t (List.mem_of_getElem? hj))
      exact ⟨x, y, e1, e2, he t _ o2 o3 o4 o5 e3⟩
  | succ m ih =>
    intro i h tk c acc ts hk hi hst hkeep hS hacc hal hG hlt
    have hin : i < n := by omega
    have hx : xs[i]? = some (xs[i]'(by omega)) := Array.getElem?_eq_getElem _
    have hy : ys[i]? = some (ys[i]'(by omega)) := Array.getElem?_eq_getElem _
    generalize xs[i]'(by omega) = x at hx
    generalize ys[i]'(by omega) = y at hy
    have hsz : acc.size = i := by rw [← Array.length_toList, hacc, List.length_map, hal]
    refine codeAny_builtin PySem.F.entry_extend_loop ?_
    rw [Around.under_plainId PySem.F.plain_extend_loop _]
    show wpAny _ A.in1 (pyNext (.ref z) >>= _) _ _ _
    refine wpAny_bind (st_item (s := { s with heap := h, toks := tk }) D hst (Heap.lt_size hS) hx hy fun h' hst' ht hz' hkp => ?_)
    dsimp only at ht hz' hkp ⊢
    have hS' := hkp S _ (Ne.symm P.z) (Ne.symm P.t_o) (Ne.symm P.i1) (Ne.symm P.i2) hS
    have up : ∀ b o, b ≠ S → h'.get? b = some o → (h'.update S (Obj.mapSeq (·.push (Value.ref h.objs.size)))).get? b = some o := fun b o hb e => (Heap.get?_update_other _ _ (Ne.symm hb)).trans e
    have hSl : S < h.objs.size := Heap.lt_size hS
    show wpAny _ A.in1 (updateSeq S (·.push (Value.ref h.objs.size)) >>= _) _ _ _
    refine wpAny_bind ?_
    refine wpAny_updateSeq hS' rfl (wpAny_pure ⟨plainId_quiet PySem.F.plain_extend_loop _, ih (i + 1) _ tk _ (acc.push (Value.ref h.objs.size)) (ts ++ [h.objs.size]) (by omega) hin (hst'.keep P up)
      (fun b o b1 b2 b3 b4 b5 e => up b o b1 (hkp b o b2 b3 b4 b5 (hkeep b o b1 b2 b3 b4 b5 e))) (Heap.get?_update_self _ hS' rfl) (by rw [Array.toList_push, hacc, List.map_append]; rfl) (by rw [List.length_append, hal]; rfl) ⟨?_, ?_, ?_⟩ ?_⟩) (by rw [hsz]; omega) (by show (acc.push (Value.ref h.objs.size)).size ≤ sizeLine + 1; rw [Array.size_push, hsz]; omega)
    · refine List.pairwise_append.mpr ⟨hG.rise, List.pairwise_singleton _ _, fun t ht b hb => ?_⟩
      rw [List.mem_singleton.mp hb]
      exact hG.there ht
    · intro t ht
      rcases List.mem_append.mp ht with ht | ht
      · exact hG.above t ht
      · rw [List.mem_singleton.mp ht]; exact hlt
    · intro j t hj
      by_cases h1 : j < ts.length
      · rw [List.getElem?_append_left h1] at hj
        obtain ⟨x', y', e1, e2, e3⟩ := hG.pairs j t hj
        obtain ⟨o1, o2, o3, o4, o5⟩ := off (hG.above t (List.mem_of_getElem? hj))
        exact ⟨x', y', e1, e2, up t _ o1 (hkp t _ o2 o3 o4 o5 e3)⟩
      · rw [List.getElem?_append_right (by omega)] at hj
        obtain ⟨hj1, hj2⟩ : j - ts.length < 1 ∧ t = h.objs.size := by
          cases hq : j - ts.length with
          | zero => rw [hq] at hj; exact ⟨by omega, (Option.some.inj hj).symm⟩
          | succ q => rw [hq] at hj; cases hj
        have ej : j = i := by omega
        subst ej hj2
        exact ⟨x, y, hx, hy, up _ _ (Nat.ne_of_gt hSl) ht⟩
    · have e : (h'.update S (Obj.mapSeq (·.push (Value.ref h.objs.size)))).get? h.objs.size = _ := up _ _ (Nat.ne_of_gt hSl) ht
      exact Nat.lt_trans hlt (Heap.lt_size e)
end
theorem zip_no_len : typeLookup (.type "zip") "__len__" = pure none := by rw [typeLookup_type, builtinLookup_eq_fast]; kernel_rfl
theorem zip_no_hint : typeLookup (.type "zip") "__length_hint__" = pure none := by rw [typeLookup_type, builtinLookup_eq_fast]; kernel_rfl
section
variable {prog : Program} {w : World} {A : Around} {s : Shared} {E : Value → Shared → Prop}
variable {z TI TO i1 i2 l1 l2 S : Addr} {xs ys : Array Value} {a b : Value}
theorem zl_extend {R : Result → Shared → Prop} {lo : Addr} (hh : A.handled = none) (D : ZipApart z TI TO i1 i2 l1 l2) (P : SApart S z TI TO i1 i2 l1 l2) (res : Value) {n : Nat} (hn : n = min xs.size ys.size) (hz : n ≤ sizeLine)
    (hlo : z ≤ lo ∧ TO ≤ lo ∧ i1 ≤ lo ∧ i2 ≤ lo ∧ S ≤ lo) (hlt : lo < s.heap.objs.size) (q : IsZip s.heap z TI TO .none) (hTI : IsPair s.heap TI (.ref i1) (.ref i2)) (hTO : IsPair s.heap TO a b)
    (h1 : s.heap.IsListIter i1 l1 0) (h2 : s.heap.IsListIter i2 l2 0) (hl1 : s.heap.IsList l1 xs) (hl2 : s.heap.IsList l2 ys) (c₀ : Nat) (hS : s.heap.get? S = some { cls := .type "list", data := .seq #[] c₀ })
    (hR : ∀ h' tk acc c ts, (∀ b o, b ≠ S → b ≠ z → b ≠ TO → b ≠ i1 → b ≠ i2 → s.heap.get? b = some o → h'.get? b = some o) → h'.get? S = some { cls := .type "list", dict := none, data := .seq acc c, slots := #[] } → ts.length = n → ZG xs ys lo h' ts →
      acc.toList = ts.map Value.ref → R (.ok (.ret res)) { s with heap := h', toks := tk }) :
    wpAny (model prog w) A.in1 (Builtin.List.listExtendWith (.ref S) (.ref z) res)
      (fun fin s' => match fin with | .done f => R (.ok f) s' | .again c' => c'.quiet = true ∧ codeAny (model prog w) A c' R s') (fun e s' => R (.error e) s') s := by
  have hT : s.TypeIs (.ref z) "zip" := ⟨_, q, rfl⟩
  unfold Builtin.List.listExtendWith
  refine wpAny_bind (wpAny_typeOf hT ?_)
  have e1 : Builtin.List.listSameRef (.ref S) (.ref z) = false := by simp [Builtin.List.listSameRef, Ne.symm P.z]
  have e2 : (Value.type "zip" == Value.type "list") = false := by decide
  have e3 : (Value.type "zip" == Value.type "tuple") = false := by decide
  simp only [e1, e2, e3, Bool.or_false, Bool.false_eq_true, if_false]
  refine wpAny_bind (wpAny_pyIter_zip q ?_)
  refine wpAny_bind (wpAny_holding ?_)
  unfold Builtin.List.listLengthHint
  refine wpAny_bind (wpAny_specialOf hT zip_no_len ?_)
  show wpAny _ A.in1 (specialOf (Value.ref z) (Str.ofString "__length_hint__") >>= _) _ _ _
  refine wpAny_bind (wpAny_specialOf hT zip_no_hint ?_)
  refine wpAny_pure ?_
  show wpAny _ A.in1 (rule "list.extend.makes-room" >>= fun _ => Builtin.List.listTouch (.ref S) >>= fun _ => again (.builtin "list.extend.loop" ⟨[.ref S, .ref z, res], []⟩)) _ _ _
  refine wpAny_bind (wpAny_rule ?_)
  refine wpAny_bind ?_
  show wpAny _ A.in1 (updateSeq S (·.push .none) >>= fun _ => updateSeq S (·.pop)) _ _ _
  refine wpAny_bind (wpAny_updateSeq hS rfl ?_)
  have hS₂ := Heap.get?_update_self (Obj.mapSeq (·.push Value.none)) hS rfl
  refine wpAny_updateSeq (hz := by seq_fits) hS₂ rfl ?_
  have hS₃ := Heap.get?_update_self (Obj.mapSeq (·.pop)) hS₂ rfl
  have oth : ∀ b o, b ≠ S → s.heap.get? b = some o → ((s.heap.update S (Obj.mapSeq (·.push Value.none))).update S (Obj.mapSeq (·.pop))).get? b = some o :=
    fun b o hb e => (Heap.get?_update_other _ _ (Ne.symm hb)).trans ((Heap.get?_update_other _ _ (Ne.symm hb)).trans e)
  have st0 : ZSt s.heap z TI TO i1 i2 l1 l2 S xs ys 0 := ⟨hTI, h1, h2, hl1, hl2, .inl ⟨q, a, b, hTO⟩⟩
  refine wpAny_pure ⟨plainId_quiet F.plain_extend_loop _, zl_loop (s := s) (h₁ := s.heap) (n := n) (lo := lo) hh D P res hn hz hlo hR n 0 _ _ _ #[] [] (Nat.sub_zero _) (Nat.zero_le _) (st0.keep P oth) (fun b o b1 _ _ _ _ e => oth b o b1 e) hS₃ rfl rfl
    ⟨List.Pairwise.nil, (fun _ ht => nomatch ht), (fun j t hj => by simp at hj)⟩ ?_⟩
  simpa [Heap.size_update] using hlt
theorem zl_init {R : Result → Shared → Prop} {lo : Addr} (hh : A.handled = none) (D : ZipApart z TI TO i1 i2 l1 l2) (P : SApart S z TI TO i1 i2 l1 l2) {n : Nat} (hn : n = min xs.size ys.size) (hz : n ≤ sizeLine)
    (hlo : z ≤ lo ∧ TO ≤ lo ∧ i1 ≤ lo ∧ i2 ≤ lo ∧ S ≤ lo) (hlt : lo < s.heap.objs.size) (q : IsZip s.heap z TI TO .none) (hTI : IsPair s.heap TI (.ref i1) (.ref i2)) (hTO : IsPair s.heap TO a b)
    (h1 : s.heap.IsListIter i1 l1 0) (h2 : s.heap.IsListIter i2 l2 0) (hl1 : s.heap.IsList l1 xs) (hl2 : s.heap.IsList l2 ys) (hS : s.heap.get? S = some { cls := .type "list", data := .seq #[] })
    (hR : ∀ h' tk acc c ts, (∀ b o, b ≠ S → b ≠ z → b ≠ TO → b ≠ i1 → b ≠ i2 → s.heap.get? b = some o → h'.get? b = some o) → h'.get? S = some { cls := .type "list", dict := none, data := .seq acc c, slots := #[] } → ts.length = n → ZG xs ys lo h' ts →
      acc.toList = ts.map Value.ref → R (.ok (.ret .none)) { s with heap := h', toks := tk }) :
    wpAny (model prog w) A.in1 (Builtin.«list.__init__» ⟨[.ref S, .ref z], []⟩)
      (fun fin s' => match fin with | .done f => R (.ok f) s' | .again c' => c'.quiet = true ∧ codeAny (model prog w) A c' R s') (fun e s' => R (.error e) s') s := by
  show wpAny _ A.in1 (do let old ← Builtin.List.listItems (.ref S); Builtin.List.listUpdate (.ref S) (fun _ => #[]); letGo old.toList.reverse; Builtin.List.listExtendWith (.ref S) (.ref z) .none) _ _ s
  refine wpAny_bind ?_
  unfold Builtin.List.listItems
  refine wpAny_bind (wpAny_seqItems hS rfl (wpAny_pure ?_))
  show wpAny _ A.in1 (updateSeq S (fun _ => #[]) >>= fun _ => letGo (#[] : Array Value).toList.reverse >>= fun _ => Builtin.List.listExtendWith (.ref S) (.ref z) .none) _ _ s
  refine wpAny_bind (wpAny_updateSeq hS rfl ?_)
  have hS₂ := Heap.get?_update_self (Obj.mapSeq (fun _ => (#[] : Array Value))) hS rfl
  have oth : ∀ b o, b ≠ S → s.heap.get? b = some o → (s.heap.update S (Obj.mapSeq (fun _ => (#[] : Array Value)))).get? b = some o :=
    fun b o hb e => (Heap.get?_update_other _ _ (Ne.symm hb)).trans e
  refine wpAny_bind (wpAny_letGo ?_)
  refine zl_extend (a := a) (b := b) hh D P .none hn hz hlo (by simpa [Heap.size_update] using hlt) (oth _ _ P.z q) (oth _ _ P.ti hTI) (oth _ _ P.t_o hTO) (h1.at fun o e => oth _ o P.i1 e) (h2.at fun o e => oth _ o P.i2 e) (hl1.at fun o e => oth _ o P.l1 e) (hl2.at fun o e => oth _ o P.l2 e) _ hS₂
    fun h' tk acc c ts b1 b2 b3 b4 b5 => ?_
  exact hR h' tk acc c ts (fun b o n1 n2 n3 n4 n5 e => b1 b o n1 n2 n3 n4 n5 (oth b o n1 e)) b2 b3 b4 b5
theorem call_list_zip {Q : Value → Shared → Prop} (hh : A.handled = none) (D : ZipApart z TI TO i1 i2 l1 l2) {n : Nat} (hn : n = min xs.size ys.size) (hz : n ≤ sizeLine)
    (q : IsZip s.heap z TI TO .none) (hTI : IsPair s.heap TI (.ref i1) (.ref i2)) (hTO : IsPair s.heap TO a b)
    (h1 : s.heap.IsListIter i1 l1 0) (h2 : s.heap.IsListIter i2 l2 0) (hl1 : s.heap.IsList l1 xs) (hl2 : s.heap.IsList l2 ys)
    (hQ : ∀ h' tk acc c ts, (∀ b o, b ≠ z → b ≠ TO → b ≠ i1 → b ≠ i2 → s.heap.get? b = some o → h'.get? b = some o) → h'.get? s.heap.objs.size = some { cls := .type "list", dict := none, data := .seq acc c, slots := #[] } → ts.length = n → ZG xs ys s.heap.objs.size h' ts →
      acc.toList = ts.map Value.ref → Q (.ref s.heap.objs.size) { s with heap := h', toks := tk }) :
    wpAny (model prog w) A (call (.type "list") [.ref z]) Q E s := by
  have ne : ∀ {c : Addr} {o : Obj}, s.heap.get? c = some o → c ≠ s.heap.objs.size := fun e => Nat.ne_of_lt (Heap.lt_size e)
  have le : ∀ {c : Addr} {o : Obj}, s.heap.get? c = some o → c ≤ s.heap.objs.size := fun e => Nat.le_of_lt (Heap.lt_size e)
  obtain ⟨_, g1, _⟩ := _root_.id h1
  obtain ⟨_, g2, _⟩ := _root_.id h2
  obtain ⟨_, g3, _⟩ := _root_.id hl1
  obtain ⟨_, g4, _⟩ := _root_.id hl2
  have P : SApart s.heap.objs.size z TI TO i1 i2 l1 l2 := ⟨ne q, ne hTI, ne hTO, ne g1, ne g2, ne g3, ne g4⟩
  refine callType_codes (Q₁ := fun obj s₁ => obj = .ref s.heap.objs.size ∧ s₁ = { s with heap := s.heap.push { cls := .type "list", data := .seq #[] } }) F.called_list (F.typeCall_list_1 _) F.entry_list_init
    (code_list_new _ ⟨rfl, rfl⟩) fun obj s₁ h₁ => ?_
  obtain ⟨rfl, rfl⟩ := h₁
  have hS : (s.heap.push { cls := .type "list", data := .seq #[] }).get? s.heap.objs.size = some { cls := .type "list", data := .seq #[] } := Heap.get?_push_size _ rfl
  have pu : ∀ b o, s.heap.get? b = some o → (s.heap.push { cls := .type "list", data := .seq #[] }).get? b = some o := fun b o e => Heap.get?_push_of_some _ e
  refine ⟨⟨_, hS, rfl⟩, F.args_list_init_2 _ _, zl_init (a := a) (b := b) (lo := s.heap.objs.size) (A := A.in1) hh D P hn hz ⟨le q, le hTO, le g1, le g2, Nat.le_refl _⟩ (by rw [Heap.size_push]; exact Nat.lt_succ_self _) (pu _ _ q) (pu _ _ hTI) (pu _ _ hTO) (h1.at fun o e => pu _ o e) (h2.at fun o e => pu _ o e) (hl1.at fun o e => pu _ o e) (hl2.at fun o e => pu _ o e) hS
    fun h' tk acc c ts b1 b2 b3 b4 b5 => ?_⟩
  exact ⟨rfl, hQ h' tk acc c ts (fun b o n2 n3 n4 n5 e => b1 b o (ne e) n2 n3 n4 n5 (pu b o e)) b2 b3 b4 b5⟩
end
end ZL
set_option Elab.async false
set_option linter.all false
set_option maxRecDepth 100000
set_option maxHeartbeats 4000000
namespace ZL
open PySem PySem.Spec PyProof.Rows L2
/-- pairs tracked at their addresses -/
def putZ : Hp → List Addr → List (V × V) → Hp
  | H, t :: ts, p :: ps => putZ (upd H t (.tup [p.1, p.2])) ts ps
  | H, _, _ => H
theorem putZ_off {b : Addr} : ∀ (ts : List Addr) (ps : List (V × V)) (H : Hp), b ∉ ts → putZ H ts ps b = H b
  | [], _, _, _ => rfl
  | _ :: _, [], _, _ => rfl
  | t :: ts, p :: ps, H, h => by
    show putZ (upd H t (.tup [p.1, p.2])) ts ps b = H b
    rw [putZ_off ts ps _ (fun z => h (List.mem_cons_of_mem _ z)), upd_ne (fun z => h (by rw [z]; exact List.mem_cons_self))]
theorem putZ_at : ∀ (ts : List Addr) (ps : List (V × V)) (H : Hp), ts.length = ps.length → ts.Nodup → ∀ (j : Nat) (t : Addr), ts[j]? = some t → ∃ p, ps[j]? = some p ∧ putZ H ts ps t = some (.tup [p.1, p.2])
  | [], _, _, _, _, j, t, e => by simp at e
  | _ :: _, [], _, h, _, _, _, _ => by cases h
  | t :: ts, p :: ps, H, h, hn, 0, u, e => by
    cases e
    have hn' := List.nodup_cons.mp hn
    refine ⟨p, rfl, ?_⟩
    show putZ (upd H t (.tup [p.1, p.2])) ts ps t = _
    rw [putZ_off ts ps _ hn'.1, upd_same]
  | t :: ts, p :: ps, H, h, hn, j + 1, u, e => putZ_at ts ps (upd H t (.tup [p.1, p.2])) (Nat.succ.inj h) (List.nodup_cons.mp hn).2 j u e

/-- what list(zip(a, b)) leaves: a list at p of new pairs at ts -/
structure ZMade (H H' : Hp) (p : Addr) (ts : List Addr) (xs ys : List V) : Prop where
  kept : ∀ b o, H b = some o → H' b = some o
  newp : H p = none
  lst : H' p = some (.lst (ts.map V.ref))
  len : ts.length = min xs.length ys.length
  at_ : ∀ (j : Nat) (t : Addr), ts[j]? = some t → H t = none ∧ t ≠ p ∧ ∃ x y, xs[j]? = some x ∧ ys[j]? = some y ∧ H' t = some (.tup [x, y])
def tLZ (K : PySem.W.Frag) (ta : TA) : TE := fun σ H Q => ta σ H fun vs H1 => ∃ (a b : Addr) (xs ys : List V), vs = [.ref a, .ref b] ∧ SqL K H1 a xs ∧ SqL K H1 b ys ∧
  ∀ H' p ts, ZMade H1 H' p ts xs ys → Q (.ref p) H'
section
variable {X : Cx} {e e2 : Expr} {ta : TA} {p p2 pos cpos : Pos}
theorem laidZ {pins : List (Addr × Obj)} {σ : L2.St} {H : Hp} {s : Shared} {h' : Heap} {tk : Nat} {xs ys : List V} {us ws : List Value} {acc : Array Value} {c : Nat} {ts : List Addr} {lo S : Addr} (I : Inv X pins σ H s) (hz : min xs.length ys.length ≤ sizeLine)
    (rx : Vals xs us) (ry : Vals ys ws) (hSz : s.heap.objs.size ≤ S) (hlo : S ≤ lo)
    (hk : ∀ b o, s.heap.get? b = some o → h'.get? b = some o) (hS : h'.get? S = some { cls := .type "list", dict := none, data := .seq acc c, slots := #[] }) (hl : ts.length = min us.length ws.length) (hG : ZG us.toArray ws.toArray lo h' ts) (hacc : acc.toList = ts.map Value.ref) :
    ∃ H' : Hp, ZMade H H' S ts xs ys ∧ Inv X pins σ H' { s with heap := h', toks := tk } := by
  have l1 := rx.length
  have l2 := ry.length
  have hSn : S ∉ ts := fun z => Nat.lt_irrefl _ (Nat.lt_of_le_of_lt hlo (hG.above _ z))
  have nd : ts.Nodup := List.Pairwise.imp (fun {a b} (h : a < b) => Nat.ne_of_lt h) hG.rise
  have high : ∀ t ∈ ts, s.heap.objs.size ≤ t := fun t ht => Nat.le_trans hSz (Nat.le_trans hlo (Nat.le_of_lt (hG.above t ht)))
  have new : ∀ t ∈ ts, H t = none := fun t ht => I.hok.fresh (high t ht)
  have newS : H S = none := I.hok.fresh hSz
  have lp : ts.length = (xs.zip ys).length := by rw [List.length_zip]; omega
  have atP := putZ_at ts (xs.zip ys) (upd H S (.lst (ts.map V.ref))) lp nd
  have off : ∀ b, b ∉ ts → b ≠ S → putZ (upd H S (.lst (ts.map V.ref))) ts (xs.zip ys) b = H b := fun b h1 h2 => by rw [putZ_off ts _ _ h1, upd_ne h2]
  have low : ∀ b o, s.heap.get? b = some o → b ∉ ts ∧ b ≠ S := fun b o e => ⟨fun z => absurd (Heap.lt_size e) (Nat.not_lt.mpr (high b z)), Nat.ne_of_lt (Nat.lt_of_lt_of_le (Heap.lt_size e) hSz)⟩
  have kp : ∀ b u, H b = some u → (putZ (upd H S (.lst (ts.map V.ref))) ts (xs.zip ys)) b = some u := fun b u e => by
    rw [off b (fun z => by rw [new b z] at e; cases e) (fun z => by rw [z, newS] at e; cases e)]
    exact e
  have eS : putZ (upd H S (.lst (ts.map V.ref))) ts (xs.zip ys) S = some (.lst (ts.map V.ref)) := by rw [putZ_off ts _ _ hSn, upd_same]
  have pair : ∀ (j : Nat) (t : Addr), ts[j]? = some t → ∃ x y, xs[j]? = some x ∧ ys[j]? = some y ∧ putZ (upd H S (.lst (ts.map V.ref))) ts (xs.zip ys) t = some (.tup [x, y]) := fun j t hj => by
    obtain ⟨q, e1, e2⟩ := atP j t hj
    obtain ⟨e3, e4⟩ := List.getElem?_zip_eq_some.mp e1
    exact ⟨q.1, q.2, e3, e4, e2⟩
  refine ⟨_, ⟨kp, newS, eS, by omega, fun j t hj => ⟨new t (List.mem_of_getElem? hj), (fun z => hSn (by rw [← z]; exact List.mem_of_getElem? hj)), pair j t hj⟩⟩, ?_⟩
  refine I.call' (ch := []) rfl ⟨fun b o q _ _ _ => hk b o q, fun b o q _ _ _ => ⟨o.slots, hk b o q⟩, fun b o q n _ => ?_, fun b o q _ => ⟨o, hk b o q⟩, fun b xs q => kp b _ q, fun b o u q => kp b _ q, fun b ps q => ⟨#[], by rw [kp b _ q]; simp⟩⟩ (fun b u q => ?_) I.bare fun b z => by simp at z
  · obtain ⟨z1, z2⟩ := low b o q
    rw [off b z1 z2]
    exact n
  · by_cases hb : b ∈ ts
    · obtain ⟨j, hj⟩ := List.mem_iff_getElem?.mp hb
      obtain ⟨x, y, e1, e2, e3⟩ := pair j b hj
      rw [e3] at q
      cases q
      obtain ⟨u, w, f1, f2, f3⟩ := hG.pairs j b hj
      obtain ⟨u', g1, r1⟩ := rx.get e1
      obtain ⟨w', g2, r2⟩ := ry.get e2
      have f1' : us[j]? = some u := by simpa using f1
      have f2' : ws[j]? = some w := by simpa using f2
      rw [f1'] at g1
      cases g1
      rw [f2'] at g2
      cases g2
      exact ⟨by show 2 ≤ sizeLine; decide, [u, w], .cons r1 (.cons r2 .nil), ⟨_, f3, rfl, _, rfl⟩⟩
    · by_cases hb2 : b = S
      · rw [hb2] at q ⊢
        rw [eS] at q
        cases q
        refine ⟨by rw [List.length_map]; omega, acc.toList, c, by rw [hacc]; exact LiI.vals_refs ts, ?_⟩
        rw [Array.toArray_toList]
        exact hS
      · rw [off b hb hb2] at q
        exact (I.hok b u q).stay (fun d v _ y => hk d v y) (fun d y => kp d _ y) fun d xs y => kp d _ y

/-- list(zip(e, e2)) -/
theorem pe_listZip (hc : X.calm = true) (hgl : Gl X "list") (hml : X.mg "list" = none) (hg : Gl X "zip") (hm : X.mg "zip" = none) (ha : PA X [e, e2] ta)
    (hs : starEach [e, e2] X.env = (false, eval e X.env) :: starEach [e2] X.env := by rfl) (hpl : (backTo cpos (starEach [e2] X.env)).any (·.1) = false := by rfl)
    (hs0 : starEach [.Call (.Name "zip" p2) [e, e2] [] cpos] X.env = [(false, eval (.Call (.Name "zip" p2) [e, e2] [] cpos) X.env)] := by rfl) :
    PE X (.Call (.Name "list" p) [.Call (.Name "zip" p2) [e, e2] [] cpos] [] pos) (tLZ X.K ta) := by
  refine ⟨fun pins s σ H Q I h => ?_⟩
  refine wpAny_Call_Name_kw (ld_blt I hgl hml boot_list ?_)
  refine PyProof.Rows.callWith_type1 ?_ hs0 rfl
  rw [hs0]
  show wpAny _ _ (spliced ((false, eval (.Call (.Name "zip" p2) [e, e2] [] cpos) X.env) :: backTo pos ([] : List (Bool × Sem Value)))) _ _ s
  refine Calls.spliced_cons ?_
  refine Call_ (ld_blt I hg hm PyProof.Rows.boot_zip (PyProof.Rows.callWith_type1 (thn (ha.run cpos pins s σ H _ I h) fun us s1 ⟨vs, H1, I1, r1, q1⟩ => ?_) hs hpl))
  obtain ⟨a, b, xs, ys, rfl, hqx, hqy, q⟩ := q1
  cases r1 with
  | cons r rr =>
    cases rr with
    | cons r' rr =>
      cases rr
      cases r
      cases r'
      obtain ⟨its, rv, p1, z1⟩ := I1.list hqx
      obtain ⟨its2, rv2, p2', z2⟩ := I1.list hqy
      refine call_zip_2 p1.isList p2'.isList fun h' hz hTI hTO h1 h2 hsz hk => Calls.spliced_nil ?_
      have hl1 : h'.IsList a its.toArray := let ⟨o, e, r⟩ := p1.isList; ⟨o, hk _ _ e, r⟩
      have hl2 : h'.IsList b its2.toArray := let ⟨o, e, r⟩ := p2'.isList; ⟨o, hk _ _ e, r⟩
      have hle : min its.toArray.size its2.toArray.size ≤ sizeLine := by
        rw [List.size_toArray, ← rv.length]
        exact Nat.le_trans (Nat.min_le_left _ _) z1
      have newer : ∀ {c d : Addr} {o : Obj}, s1.heap.get? c = some o → s1.heap.objs.size ≤ d → c ≠ d := fun e hd z => by
        have := Heap.lt_size e
        rw [z] at this
        exact Nat.lt_irrefl _ (Nat.lt_of_lt_of_le this hd)
      refine call_list_zip (s := { s1 with heap := h' }) (I1.ok.hd hc) (PySem.W.ktu_apart s1.heap.objs.size a b p1.lt p2'.lt) rfl hle hz hTI hTO h1 h2 hl1 hl2 fun h'' tk acc c ts b1 b2 b3 b4 b5 => ?_
      have hk2 : ∀ d o, s1.heap.get? d = some o → h''.get? d = some o := fun d o e =>
        b1 d o (newer e (Nat.le_add_right _ _)) (newer e (Nat.le_add_right _ _)) (newer e (Nat.le_refl _)) (newer e (Nat.le_add_right _ _)) (hk d o e)
      obtain ⟨H', mk, J⟩ := laidZ (tk := tk) (S := h'.objs.size) (lo := h'.objs.size) I1 (by rw [rv.length, rv2.length]; simpa using hle) rv rv2 (by omega) (Nat.le_refl _) hk2 b2 (by simpa using b3) b4 b5
      exact ⟨.ref h'.objs.size, H', J, rfl, q H' _ ts mk⟩
end
end ZL
set_option Elab.async false
set_option linter.all false
set_option maxRecDepth 100000
set_option maxHeartbeats 4000000
namespace Days
open PySem PySem.Spec PyProof.Rows L2
def topS (i : Nat) : Stmt := PySem.Challenge.pw_effectonce_k52_whole_calendars_alike.main.body.getD i (.Pass ⟨0, 0, 0, 0⟩)
abbrev sMarks : Stmt := topS 5
abbrev sJoined : Stmt := topS 6
abbrev sLeaf : Stmt := topS 7
abbrev sLeaves : Stmt := topS 8
abbrev sRep0 : Stmt := topS 9
abbrev sHas : Stmt := topS 10
abbrev sTimes : Stmt := topS 11
abbrev sRepeats : Stmt := topS 12
abbrev sLeast : Stmt := topS 13
abbrev sPlain : Stmt := topS 14
abbrev sOpen : Stmt := topS 19
abbrev sPick : Stmt := topS 20
abbrev sDraw : Stmt := topS 21
abbrev sLHas : Stmt := topS 22
abbrev sLTail : Stmt := topS 23
abbrev sLPlain : Stmt := topS 24
abbrev sLaw : Stmt := topS 26
abbrev nMarks : List Str := ["c", "low", "high", "done", "waiting", "step", "part", "later", "second", "first"]
theorem scMarks : FnScope nMarks ["c", "low", "high"] (defScope sMarks) := ⟨rfl, rfl, rfl, by decide +kernel, rfl, by decide +kernel, by decide +kernel⟩
abbrev nJoined : List Str := ["word", "first", "second", "pairs", "one", "other"]
theorem scJoined : FnScope nJoined ["word", "first", "second"] (defScope sJoined) := ⟨rfl, rfl, rfl, by decide +kernel, rfl, by decide +kernel, by decide +kernel⟩
abbrev nLeaf : List Str := ["part", "low", "high", "listed", "_", "k", "s", "e", "last", "time"]
theorem scLeaf : FnScope nLeaf ["part", "low", "high"] (defScope sLeaf) := ⟨rfl, rfl, rfl, by decide +kernel, rfl, by decide +kernel, by decide +kernel⟩
abbrev nLeaves : List Str := ["c", "leaves", "waiting", "part", "later"]
theorem scLeaves : FnScope nLeaves ["c"] (defScope sLeaves) := ⟨rfl, rfl, rfl, by decide +kernel, rfl, by decide +kernel, by decide +kernel⟩
abbrev nRep0 : List Str := ["c", "n", "q", "part", "later", "time"]
theorem scRep0 : FnScope nRep0 ["c"] (defScope sRep0) := ⟨rfl, rfl, rfl, by decide +kernel, rfl, by decide +kernel, by decide +kernel⟩
theorem scHas : FnScope ["c", "t"] ["c", "t"] (defScope sHas) := ⟨rfl, rfl, rfl, by decide +kernel, rfl, by decide +kernel, by decide +kernel⟩
theorem scTimes : FnScope ["c", "low", "high"] ["c", "low", "high"] (defScope sTimes) := ⟨rfl, rfl, rfl, by decide +kernel, rfl, by decide +kernel, by decide +kernel⟩
theorem scRepeats : FnScope ["c", "n", "q", "marks"] ["c"] (defScope sRepeats) := ⟨rfl, rfl, rfl, by decide +kernel, rfl, by decide +kernel, by decide +kernel⟩
theorem scLeast : FnScope ["marks", "q"] ["marks"] (defScope sLeast) := ⟨rfl, rfl, rfl, by decide +kernel, rfl, by decide +kernel, by decide +kernel⟩
theorem scPlain : FnScope ["c", "q", "n"] ["c"] (defScope sPlain) := ⟨rfl, rfl, rfl, by decide +kernel, rfl, by decide +kernel, by decide +kernel⟩
theorem scOpen : FnScope ["_law_script", "_law_stirred", "_law_cell", "_law_cells"] ["_law_script"] (defScope sOpen) := ⟨rfl, rfl, rfl, by decide +kernel, rfl, by decide +kernel, by decide +kernel⟩
theorem scPick : FnScope ["_law_source", "_law_most", "_law_cells", "_law_others", "_law_lap", "_law_stirred"] ["_law_source", "_law_most"] (defScope sPick) := ⟨rfl, rfl, rfl, by decide +kernel, rfl, by decide +kernel, by decide +kernel⟩
theorem scDraw : FnScope ["_law_source", "_law_depth", "_law_road", "_law_end", "_law_one", "_law_turn"] ["_law_source", "_law_depth"] (defScope sDraw) := ⟨rfl, rfl, rfl, by decide +kernel, rfl, by decide +kernel, by decide +kernel⟩
theorem scLHas : FnScope ["_law_calendar", "_law_time", "_law_word", "_law_step", "_law_start", "_law_end", "_law_one", "_law_other"] ["_law_calendar", "_law_time"] (defScope sLHas) := ⟨rfl, rfl, rfl, by decide +kernel, rfl, by decide +kernel, by decide +kernel⟩
theorem scLTail : FnScope ["_law_calendar"] ["_law_calendar"] (defScope sLTail) := ⟨rfl, rfl, rfl, by decide +kernel, rfl, by decide +kernel, by decide +kernel⟩
abbrev sUnlike : Stmt := topS 15
abbrev sEndless : Stmt := topS 16
abbrev sCalOf : Stmt := topS 17
abbrev sOther : Stmt := topS 25
theorem scUnlike : FnScope ["c", "d", "n", "q", "m", "p", "high", "time", "one", "other"] ["c", "d"] (defScope sUnlike) := ⟨rfl, rfl, rfl, by decide +kernel, rfl, by decide +kernel, by decide +kernel⟩
theorem scEndless : FnScope ["c"] ["c"] (defScope sEndless) := ⟨rfl, rfl, rfl, by decide +kernel, rfl, by decide +kernel, by decide +kernel⟩
theorem scCalOf : FnScope ["plain", "early", "n", "q", "rests", "c", "rest"] ["plain"] (defScope sCalOf) := ⟨rfl, rfl, rfl, by decide +kernel, rfl, by decide +kernel, by decide +kernel⟩
theorem scOther : FnScope ["_law_source", "_law_one", "_law_other", "_law_third", "_law_road", "_law_n", "_law_k", "_law_start"] ["_law_source", "_law_one", "_law_other", "_law_third"] (defScope sOther) := ⟨rfl, rfl, rfl, by decide +kernel, rfl, by decide +kernel, by decide +kernel⟩
end Days
set_option Elab.async false
set_option linter.all false
set_option maxRecDepth 100000
set_option maxHeartbeats 4000000
namespace Days
open PySem PySem.Spec PyProof.Rows L2 Y3 Cl
/-- a target of two local names -/
theorem pg_pair {X : Cx} {xa xb : Str} {pa pb pos : Pos} {k i j : Nat} (hN : X.N.Nodup) (ha : X.N[i]? = some xa) (hb : X.N[j]? = some xb) (fa : X.env.scope.names.lookup xa = some .local) (fb : X.env.scope.names.lookup xb = some .local) (hc : X.calm = true) :
    PG X (.Tuple [.Name xa pa, .Name xb pb] k pos) (gTup X.K 2 (gCons (gName i) (gCons (gName j) gNil))) :=
  pg_tup hc (pgs_cons (pg_name hN ha (.inl fa) (.inr fa)) (pgs_cons (pg_name hN hb (.inl fb) (.inr fb)) pgs_nil))
/-- .. of three -/
theorem pg_three {X : Cx} {xa xb xc : Str} {pa pb pc pos : Pos} {k i j l : Nat} (hN : X.N.Nodup) (ha : X.N[i]? = some xa) (hb : X.N[j]? = some xb) (hd : X.N[l]? = some xc) (fa : X.env.scope.names.lookup xa = some .local) (fb : X.env.scope.names.lookup xb = some .local)
    (fc : X.env.scope.names.lookup xc = some .local) (hc : X.calm = true) : PG X (.Tuple [.Name xa pa, .Name xb pb, .Name xc pc] k pos) (gTup X.K 3 (gCons (gName i) (gCons (gName j) (gCons (gName l) gNil)))) :=
  pg_tup hc (pgs_cons (pg_name hN ha (.inl fa) (.inr fa)) (pgs_cons (pg_name hN hb (.inl fb) (.inr fb)) (pgs_cons (pg_name hN hd (.inl fc) (.inr fc)) pgs_nil)))
/-! ### calendars as they stand in a heap -/
def opS : Op → Str
  | .both => "both"
  | .common => "common"
  | .without => "without"
def eV : Option Int → V
  | none => .non
  | some e => .int e
inductive CAt (H : Hp) : V → Cal → Prop
  | every {a : Addr} {k s : Int} {e : Option Int} : H a = some (.tup [.str "every", .int k, .int s, eV e]) → CAt H (.ref a) (.every k s e)
  | list {a b : Addr} {ts : List Int} : H a = some (.tup [.str "list", .ref b]) → H b = some (.tup (ts.map V.int)) → CAt H (.ref a) (.list ts)
  | pair {a : Addr} {o : Op} {v w : V} {c d : Cal} : H a = some (.tup [.str (opS o), v, w]) → CAt H v c → CAt H w d → CAt H (.ref a) (.pair o c d)
  | moved {a : Addr} {v : V} {c : Cal} {n : Int} : H a = some (.tup [.str "moved", v, .int n]) → CAt H v c → CAt H (.ref a) (.moved c n)
theorem CAt.ext {S : Addr → Prop} {H H' : Hp} (e : Ext S H H') : ∀ {v : V} {c : Cal}, CAt H v c → CAt H' v c := by
  intro v c h
  induction h with
  | every h => exact .every (e.tup _ _ h)
  | list h k => exact .list (e.tup _ _ h) (e.tup _ _ k)
  | pair h _ _ i j => exact .pair (e.tup _ _ h) i j
  | moved h _ i => exact .moved (e.tup _ _ h) i
end Days
set_option Elab.async false
set_option linter.all false
set_option maxRecDepth 100000
set_option maxHeartbeats 4000000
namespace Days
open PySem PySem.Spec PyProof.Rows L2 Y3 Cl
def spJoined : Sp := fun vs H Q _ => ∃ (o : Op) (a b : Addr) (xs ys : List Bool), vs = [.str (opS o), .ref a, .ref b] ∧ H a = some (.lst (xs.map V.bl)) ∧ H b = some (.lst (ys.map V.bl)) ∧ xs.length = ys.length ∧ xs.length ≤ 1000000 ∧
  ∀ H' p, Ex H H' → H p = none → H' p = some (.lst ((List.zipWith o.fn xs ys).map V.bl)) → Q (.ref p) H'
section
variable {P : Program} {w : World} {K : PySem.W.Frag} {mg : Str → Option Value} {base : Heap}
theorem ok_joined {f : Addr} {fd : FuncData} {k : Nat} (F : Fun K "_joined_marks" "_joined_marks" sJoined f fd) (ml : mg "list" = none) (mz : mg "zip" = none) : FnOk P w K mg base CX0 (k + 1) f fd ["word", "first", "second"] spJoined := by
  refine F.ok scJoined (fun vs H Q E h => ?_) (fun cdv A outer s H vs Q E hr h => ?_)
  · obtain ⟨o, a, b, xs, ys, rfl, _⟩ := h
    rfl
  · obtain ⟨o, a, b, xs, ys, rfl, ha, hb, hl, hn, q⟩ := h
    have nd := scJoined.nd
    refine ⟨_, pss_cons (ps_set (i := 3) nd rfl (.inl rfl) (ZL.pe_listZip rfl (by rfl) ml (by rfl) mz (pa_cons (pv 1) (pa_cons (pv 2) pa_nil))))
      (pss_cons (ps_if (pt_cmpR op_eq (pv 0) pe_str (nomark _))
        (pss_one (ps_ret (pe_lc (own := [("one", 4), ("other", 5)]) (g := gTup K 2 (gCons (gName 4) (gCons (gName 5) gNil))) (tt := tYes) rfl nd (pi_list (pv 3)) (blkOk_by (N := nJoined) (sc := defScope sJoined) (by decide +kernel))
          (fun _ _ _ _ _ => pg_pair (i := 4) (j := 5) nd rfl rfl rfl rfl rfl) (fun _ _ _ _ _ => pts_nil) (fun _ _ _ _ _ => pe_or (pv 4) (pe_one (pv 5)))))) pss_nil)
      (pss_cons (ps_if (pt_cmpR op_eq (pv 0) pe_str (nomark _))
        (pss_one (ps_ret (pe_lc (own := [("one", 4), ("other", 5)]) (g := gTup K 2 (gCons (gName 4) (gCons (gName 5) gNil))) (tt := tYes) rfl nd (pi_list (pv 3)) (blkOk_by (N := nJoined) (sc := defScope sJoined) (by decide +kernel))
          (fun _ _ _ _ _ => pg_pair (i := 4) (j := 5) nd rfl rfl rfl rfl rfl) (fun _ _ _ _ _ => pts_nil) (fun _ _ _ _ _ => pe_and (pv 4) (pe_one (pv 5)))))) pss_nil)
      (pss_one (ps_ret (pe_lc (own := [("one", 4), ("other", 5)]) (g := gTup K 2 (gCons (gName 4) (gCons (gName 5) gNil))) (tt := tYes) rfl nd (pi_list (pv 3)) (blkOk_by (N := nJoined) (sc := defScope sJoined) (by decide +kernel))
          (fun _ _ _ _ _ => pg_pair (i := 4) (j := 5) nd rfl rfl rfl rfl rfl) (fun _ _ _ _ _ => pts_nil) (fun _ _ _ _ _ => pe_and (pv 4) (pe_one (pe_not (pv 5))))))))), ?_⟩
    refine ⟨.ref a, rfl, .ref b, rfl, a, b, xs.map V.bl, ys.map V.bl, rfl, sqL_of ha, sqL_of hb, fun H1 p ts mk => ?_⟩
    have lz : (List.zipWith o.fn xs ys).length = xs.length := by rw [List.length_zipWith]; omega
    have lt : ts.length = xs.length := by rw [mk.len, List.length_map, List.length_map]; omega
    have e01 : Ex H H1 := .ofSame mk.kept
    have at_ : ∀ (i : Nat) (t : Addr), ts[i]? = some t → ∃ x y, xs[i]? = some x ∧ ys[i]? = some y ∧ H1 t = some (.tup [.bl x, .bl y]) := fun i t ht => by
      obtain ⟨_, _, x, y, h1, h2, h3⟩ := mk.at_ i t ht
      rw [List.getElem?_map] at h1 h2
      obtain ⟨x', hx, rfl⟩ := Option.map_eq_some_iff.mp h1
      obtain ⟨y', hy, rfl⟩ := Option.map_eq_some_iff.mp h2
      exact ⟨x', y', hx, hy, h3⟩
    -- the comprehension, whatever its element
    have comp : ∀ (te : TE) (σ : L2.St) (Q' : VK), σ.length = 6 → σ[3]? = some (some (.ref p)) → (∀ (x y : Bool) (σ : L2.St) (H : Hp) (Q : VK), σ[4]? = some (some (.bl x)) → σ[5]? = some (some (.bl y)) → Q (.bl (o.fn x y)) H → te σ H Q) →
        (∀ H' D, Ex H1 H' → H1 D = none → H' D = some (.lst ((List.zipWith o.fn xs ys).map V.bl)) → Q' (.ref D) H') →
        tLc (iList K (tVar 3)) (gTup K 2 (gCons (gName 4) (gCons (gName 5) gNil))) tYes te [4, 5] σ H1 Q' := by
      intro te σ Q' hlen h3 hte hQ
      refine ⟨.ref p, h3, p, rfl, ⟨_, sqL_of mk.lst⟩, fun D nD => ?_⟩
      refine lc_it (walk_list (K := K) (a := p) (xs := ts.map V.ref)) (CI (fun H' => Ex H1 H') (fun i acc => acc = ((List.zipWith o.fn xs ys).take i).map V.bl) D) (CI.start (Ext.upd1 nD) rfl) (fun i H' _ h => sqL_of (h.1.lst not0 mk.lst)) (fun i x H2 H3 hi h y => ?_) (fun H' h => ?_)
      · obtain ⟨e2, acc, hD, ha⟩ := h
        obtain ⟨rfl, hx⟩ := y
        rw [List.getElem?_map] at hx
        obtain ⟨t, ht, rfl⟩ := Option.map_eq_some_iff.mp hx
        obtain ⟨b1, b2, g1, g2, g3⟩ := at_ i t ht
        refine ⟨t, _, rfl, sqT_of (e2.tup _ _ g3), rfl, .bl b1, _, rfl, .bl b2, _, rfl, rfl, ?_⟩
        obtain ⟨s0, s1, s2, s3, s4, s5, rfl⟩ : ∃ s0 s1 s2 s3 s4 s5, σ = [s0, s1, s2, s3, s4, s5] := by
          match σ, hlen with
          | [s0, s1, s2, s3, s4, s5], _ => exact ⟨s0, s1, s2, s3, s4, s5, rfl⟩
        refine ⟨rfl, ?_⟩
        refine tYes_ok (hte b1 b2 _ _ _ rfl rfl (CI.put e2 hD (fun o => e2.updN nD) ?_ ?_))
        · rw [ha, List.length_map, List.length_take]
          exact few (by omega)
        · rw [ha, List.take_add_one, List.map_append]
          congr 1
          rw [show (List.zipWith o.fn xs ys)[i]? = some (o.fn b1 b2) by rw [List.getElem?_zipWith, g1, g2]]
          rfl
      · obtain ⟨e2, acc, hD, ha⟩ := h
        rw [ha, List.length_map, List.take_of_length_le (by omega)] at hD
        exact hQ H' D e2 nD hD
    have fin : ∀ H' D, Ex H1 H' → H1 D = none → H' D = some (.lst ((List.zipWith o.fn xs ys).map V.bl)) → Q (.ref D) H' := fun H' D e2 nD hD => q H' D (e01.trans e2) (e01.fre D nD) hD
    refine ⟨.str (opS o), rfl, rfl, _, rfl, ite2 (fun e => ?_) (fun e => ?_)⟩
    · have ho : o = .both := by
        have := of_decide_eq_true e
        cases o
        · rfl
        · exact absurd this (by decide)
        · exact absurd this (by decide)
      subst ho
      refine comp _ _ _ rfl rfl (fun x y σ H Q h4 h5 q => ⟨_, h4, x, rfl, ?_⟩) fin
      cases x
      · exact iteF ⟨_, h5, q⟩
      · exact iteT q
    · refine ⟨.str (opS o), rfl, rfl, _, rfl, ite2 (fun e' => ?_) (fun e' => ?_)⟩
      · have ho : o = .common := by
          have := of_decide_eq_true e'
          cases o
          · exact absurd this (by decide)
          · rfl
          · exact absurd this (by decide)
        subst ho
        refine comp _ _ _ rfl rfl (fun x y σ H Q h4 h5 q => ⟨_, h4, x, rfl, ?_⟩) fin
        cases x
        · exact iteF q
        · exact iteT ⟨_, h5, q⟩
      · have ho : o = .without := by
          cases o
          · exact absurd (decide_eq_true rfl) e
          · exact absurd (decide_eq_true rfl) e'
          · rfl
        subst ho
        refine comp _ _ _ rfl rfl (fun x y σ H Q h4 h5 q => ⟨_, h4, x, rfl, ?_⟩) fin
        cases x
        · exact iteF q
        · exact iteT ⟨_, h5, y, rfl, q⟩
end
end Days
set_option Elab.async false
set_option linter.all false
set_option maxRecDepth 100000
set_option maxHeartbeats 4000000
namespace Days
open PySem PySem.Spec PyProof.Rows L2 Y3 Cl
def Fits (lo hi : Int) : Prop := -10000000 ≤ lo ∧ lo ≤ 10000000 ∧ hi ≤ 10000000 ∧ -10000000 ≤ hi ∧ hi - lo ≤ 1000000
def spLeaf : Sp := fun vs H Q _ => ∃ (v : V) (c : Cal) (lo hi : Int), vs = [v, .int lo, .int hi] ∧ CAt H v c ∧ IsLeaf c ∧ Fits lo hi ∧
  ∀ H' p, Ex H H' → H p = none → H' p = some (.lst ((mks c lo hi).map V.bl)) → Q (.ref p) H'
theorem mks_eq (c : Cal) (lo hi : Int) : (List.range (hi - lo).toNat).map (fun i => V.bl (c.has (lo + (i : Nat)))) = (mks c lo hi).map V.bl := by
  unfold mks rng
  rw [List.map_map, List.map_map]
  rfl
theorem dec_int (a b : Int) : decide (V.int a = V.int b) = decide (a = b) := by
  by_cases e : a = b
  · subst e; simp
  · rw [decide_eq_false e, decide_eq_false fun z => e (V.int.inj z)]
/-- the dict of the listed times -/
def Held (H : Hp) (d : Addr) (ts : List Int) : Prop := ∃ kvs : List (Key × V), H d = some (.dK kvs) ∧ ∀ t : Int, (valV kvs (Sum.inl t)).isSome = decide (t ∈ ts)
section
variable {P : Program} {w : World} {K : PySem.W.Frag} {mg : Str → Option Value} {base : Heap}
theorem ok_leaf {f : Addr} {fd : FuncData} {k : Nat} (F : Fun K "_leaf_marks" "_leaf_marks" sLeaf f fd) (mr : mg "range" = none) : FnOk P w K mg base CX0 (k + 1) f fd ["part", "low", "high"] spLeaf := by
  refine F.ok scLeaf (fun vs H Q E h => ?_) (fun cdv A outer s H vs Q E hr h => ?_)
  · obtain ⟨v, c, lo, hi, rfl, _⟩ := h
    rfl
  · obtain ⟨v, c, lo, hi, rfl, hc, hleaf, ⟨b1, b2, b3, b4, b5⟩, q⟩ := h
    have nd := scLeaf.nd
    have hu := hu_of hr
    refine ⟨_, pss_cons (ps_if (pt_cmpR op_eq (pe_ix ix_tup (pv 0) pe_int (fun _ _ => rfl)) pe_str (nomark _))
        (pss_cons (ps_set (i := 3) nd rfl (.inr rfl) (pe_dc (own := [("time", 9)]) (g := gName 9) (tt := tYes) rfl nd (pi_tup (pe_ix ix_tup (pv 0) pe_int (fun _ _ => rfl))) (blkOk_by (N := nLeaf) (sc := defScope sLeaf) (by decide +kernel))
            (fun _ _ _ _ _ => pg_name (i := 9) nd rfl (.inl rfl)) (fun _ _ _ _ _ => pts_nil) (fun _ _ _ _ _ => pv 9) (fun _ _ _ _ _ => pe_bl)))
        (pss_one (ps_ret (pe_lc (own := [("time", 9)]) (g := gName 9) (tt := tYes) rfl nd (pi_range2 (by rfl) mr (pa_cons (pv 1) (pa_cons (pv 2) pa_nil))) (blkOk_by (N := nLeaf) (sc := defScope sLeaf) (by decide +kernel))
            (fun _ _ _ _ _ => pg_name (i := 9) nd rfl (.inl rfl)) (fun _ _ _ _ _ => pts_nil) (fun _ _ _ _ _ => pe_cmp (pc_din hu (pv 9) (pv 3)) rfl))))) pss_nil)
      (pss_cons (ps_asg (pv 0) (pg_tup (by rfl) (pgs_cons (pg_name (i := 4) nd rfl (.inl rfl)) (pgs_cons (pg_name (i := 5) nd rfl (.inr rfl)) (pgs_cons (pg_name (i := 6) nd rfl (.inr rfl)) (pgs_cons (pg_name (i := 7) nd rfl (.inl rfl)) pgs_nil))))))
      (pss_cons (ps_set (i := 8) nd rfl (.inr rfl) (pe_ifExp (pt_cmpR op_isN (pv 7) pe_non (nomark _)) (pv 2) (pv 7)))
      (pss_one (ps_ret (pe_lc (own := [("time", 9)]) (g := gName 9) (tt := tYes) rfl nd (pi_range2 (by rfl) mr (pa_cons (pv 1) (pa_cons (pv 2) pa_nil))) (blkOk_by (N := nLeaf) (sc := defScope sLeaf) (by decide +kernel))
            (fun _ _ _ _ _ => pg_name (i := 9) nd rfl (.inl rfl)) (fun _ _ _ _ _ => pts_nil)
            (fun _ _ _ _ _ => pe_and (pe_chain op_le op_le (pv 6) (pv 9) (pv 8)) (pe_one (pe_cmpR op_eq (pe_op op_mod (pe_op op_sub (pv 9) (pv 6)) (pv 5)) pe_int (nomark _))))))))), ?_⟩
    -- the range's comprehension, whatever its element
    have comp : ∀ (te : TE) (σ : L2.St) (H1 : Hp) (Q' : VK), Ex H H1 → σ[1]? = some (some (.int lo)) → σ[2]? = some (some (.int hi)) →
        (∀ (i : Nat) (H2 : Hp) (Q : VK), i < (hi - lo).toNat → Ex H1 H2 → Q (.bl (c.has (lo + (i : Nat)))) H2 → te ((σ.set 9 none).set 9 (some (.int (lo + (i : Nat))))) H2 Q) →
        (∀ H' D, Ex H H' → H D = none → H' D = some (.lst ((mks c lo hi).map V.bl)) → Q' (.ref D) H') →
        tLc (iRng2 (tCons (tVar 1) (tCons (tVar 2) tNil))) (gName 9) tYes te [9] σ H1 Q' := by
      intro te σ H1 Q' e01 h1 h2 hte hQ
      refine ⟨.int lo, h1, .int hi, h2, lo, hi, rfl, ⟨by omega, by omega, by omega, by omega⟩, fun D nD => ?_⟩
      refine lcG (walk_range (lo := lo) (n := (hi - lo).toNat)) (fun _ => true) (fun i => .bl (c.has (lo + (i : Nat)))) nD (by omega) (fun i H x H' _ y => y) (fun _ _ => trivial) (fun i H2 Q _ _ h => tY h) (fun i H2 Q hi _ e h => hte i H2 Q hi e (h H2 Ext.refl)) (fun H' e hD => ?_)
      rw [filt_true, mks_eq] at hD
      exact hQ H' D (e01.trans e) (e01.fre D nD) hD
    cases hc with
    | pair _ _ _ => exact hleaf.elim
    | moved _ _ => exact hleaf.elim
    | @list a b ts ha hb =>
      refine ⟨.ref a, rfl, a, _, 0, .str "list", rfl, rfl, sqT_of ha, atI_nat (j := 0) rfl, rfl, _, rfl, ite2 (fun _ => ?_) (fun e => absurd (decide_eq_true rfl) e)⟩
      refine ⟨.ref a, rfl, a, _, 1, .ref b, rfl, rfl, sqT_of ha, atI_nat (j := 1) rfl, b, rfl, ⟨_, sqT_of hb⟩, fun D nD => ?_⟩
      refine dc_tup (K := K) (a := b) (xs := ts.map V.int) (fun i H' => Ex H H' ∧ ∃ kvs : List (Key × V), H' D = some (.dK kvs) ∧ kvs.length ≤ i ∧ ∀ t : Int, (valV kvs (Sum.inl t)).isSome = decide (t ∈ ts.take i))
        ⟨Ext.upd1 nD, [], upd_same, Nat.le_refl _, fun t => by rw [List.take_zero, valV_nil]; simp⟩ (fun i H' _ h => sqT_of (h.1.tup _ _ hb)) (fun i x H' hx h => ?_) (fun H' h => ?_)
      · obtain ⟨e1, kvs, hD, hl, hv⟩ := h
        rw [List.getElem?_map] at hx
        obtain ⟨t, ht, rfl⟩ := Option.map_eq_some_iff.mp hx
        have hi2 : i < ts.length := (List.getElem?_eq_some_iff.mp ht).1
        have := hleaf.2
        refine ⟨rfl, tYes_ok ⟨.int t, rfl, kvs, Sum.inl t, rfl, hD, few (by omega), e1.updN nD, _, upd_same, ?_, fun u => ?_⟩⟩
        · have := length_putK kvs (Sum.inl t) (V.bl true)
          omega
        · rw [valV_put, List.take_add_one, ht]
          by_cases e : u = t
          · subst e
            simp
          · rw [if_neg (fun z => e (Sum.inl.inj z)), hv u]
            simp [e]
      · obtain ⟨e1, kvs, hD, hl, hv⟩ := h
        rw [List.length_map, List.take_of_length_le (Nat.le_refl _)] at hv
        refine comp _ _ _ _ e1 rfl rfl (fun i H2 Q hi e q => ?_) q
        refine ⟨.int (lo + (i : Nat)), rfl, .ref D, rfl, D, _, rfl, DGet.k (k := Sum.inl (lo + (i : Nat))) (e.keep D _ not0 hD fun _ z => by cases z), ?_⟩
        rw [hv]
        exact q
    | @every a kk ss ee ha =>
      refine ⟨.ref a, rfl, a, _, 0, .str "every", rfl, rfl, sqT_of ha, atI_nat (j := 0) rfl, rfl, _, rfl, ite2 (fun e => absurd (of_decide_eq_true e) (by decide)) (fun _ => ?_)⟩
      refine ⟨.ref a, rfl, a, _, rfl, sqT_of ha, rfl, .str "every", _, rfl, .int kk, _, rfl, .int ss, _, rfl, eV ee, _, rfl, rfl, ?_⟩
      obtain ⟨⟨k1, k6⟩, _, _⟩ := hleaf
      have last : ∀ (L : Int) (σ : L2.St), (∀ t : Int, lo ≤ t → t < hi → decide (t ≤ L) = upTo ee t) → σ = [some (.ref a), some (.int lo), some (.int hi), none, some (.str "every"), some (.int kk), some (.int ss), some (eV ee), some (.int L), none] →
          tRet (tLc (iRng2 (tCons (tVar 1) (tCons (tVar 2) tNil))) (gName 9) tYes (tAndV (tChain (rI0 fun i j => V.bl (decide (i ≤ j))) (rI0 fun i j => V.bl (decide (i ≤ j))) (tVar 6) (tVar 9) (tVar 8))
            (tOp rEq (tOp (rI (fun x j => 0 < j) fun i j => V.int (i % j)) (tOp (rI0 fun i j => V.int (i - j)) (tVar 9) (tVar 6)) (tVar 5)) (tC (V.int 0)))) [9]) { nx := fun x H' => Q V.non H', rt := Q } σ H := by
        intro L σ hL hσ
        subst hσ
        refine comp _ _ _ _ Ext.refl rfl rfl (fun i H2 Q hi e q => ?_) q
        have hup := hL (lo + (i : Nat)) (by omega) (by omega)
        have hv : ∀ b : Bool, b = (decide (ss ≤ lo + (i : Nat)) && decide ((lo + (i : Nat) - ss) % kk = 0) && upTo ee (lo + (i : Nat))) → Q (.bl b) H2 := fun b e => by
          rw [e]
          exact q
        refine ⟨.int ss, rfl, .int (lo + (i : Nat)), rfl, ss, lo + (i : Nat), rfl, rfl, _, rfl, ite2 (fun e1 => ?_) (fun e1 => ⟨_, rfl, iteF (hv _ ?_)⟩)⟩
        · refine ⟨.int L, rfl, lo + (i : Nat), L, rfl, rfl, _, rfl, ite2 (fun e2 => ?_) (fun e2 => hv _ ?_)⟩
          · refine ⟨.int (lo + (i : Nat)), rfl, .int ss, rfl, lo + (i : Nat), ss, rfl, rfl, .int kk, rfl, lo + (i : Nat) - ss, kk, rfl, rfl, by omega, rfl, hv _ ?_⟩
            rw [e1, ← hup, e2, dec_int, Bool.true_and, Bool.and_true]
          · rw [← hup, eq_false_of_ne_true e2, Bool.and_false]
        · rw [eq_false_of_ne_true e1, Bool.false_and, Bool.false_and]
      cases ee with
      | none =>
        refine ⟨.non, rfl, rfl, _, rfl, iteT ⟨.int hi, rfl, last hi _ (fun t _ h2 => ?_) rfl⟩⟩
        show decide (t ≤ hi) = true
        exact decide_eq_true (by omega)
      | some e => exact ⟨.int e, rfl, rfl, _, rfl, iteF ⟨.int e, rfl, last e _ (fun t _ _ => rfl) rfl⟩⟩
end
end Days
set_option Elab.async false
set_option linter.all false
set_option maxRecDepth 100000
set_option maxHeartbeats 4000000
namespace Days
open PySem PySem.Spec PyProof.Rows L2 Y3 Cl
/-! ### the mathematics of the stack -/
inductive Item where
  | ev (v : V) (c : Cal) (l : Int)
  | jn (v : V) (o : Op) (l : Int)
def sz : Cal → Nat
  | .every _ _ _ => 1
  | .list _ => 1
  | .pair _ c d => sz c + sz d + 2
  | .moved c _ => sz c + 1
theorem sz_pos : ∀ c : Cal, 0 < sz c
  | .every _ _ _ => Nat.one_pos
  | .list _ => Nat.one_pos
  | .pair _ _ _ => Nat.succ_pos _
  | .moved _ _ => Nat.succ_pos _
def wt : Item → Nat
  | .ev _ c _ => sz c
  | .jn _ _ _ => 1
def wts (its : List Item) : Nat := (its.map wt).sum
def runW (lo hi : Int) : List Item → List (List Bool) → List (List Bool)
  | [], D => D
  | .ev _ c l :: W, D => runW lo hi W (mks c (lo - l) (hi - l) :: D)
  | .jn _ o _ :: W, s :: f :: D => runW lo hi W (List.zipWith o.fn f s :: D)
  | .jn _ _ _ :: _, _ => []
theorem mks_moved (c : Cal) (n lo hi l : Int) : mks c (lo - (l + n)) (hi - (l + n)) = mks (.moved c n) (lo - l) (hi - l) := by
  unfold mks rng
  rw [List.map_map, List.map_map, show hi - (l + n) - (lo - (l + n)) = hi - l - (lo - l) by omega]
  refine List.map_congr_left fun i _ => ?_
  show c.has (lo - (l + n) + (i : Nat)) = c.has (lo - l + (i : Nat) - n)
  congr 1
  omega
theorem mks_pair (o : Op) (c d : Cal) (lo hi : Int) : List.zipWith o.fn (mks c lo hi) (mks d lo hi) = mks (.pair o c d) lo hi := by
  unfold mks
  induction rng lo hi with
  | nil => rfl
  | cons x r ih =>
    show o.fn (c.has x) (d.has x) :: List.zipWith o.fn (r.map c.has) (r.map d.has) = _
    rw [ih]
    rfl
/-! ### in the heap -/
def CalOk (c : Cal) (l : Int) : Prop := Mild c l ∧ sz c ≤ 10000
def ItemAt (H : Hp) (x : V) : Item → Prop
  | .ev v c l => ∃ t, x = .ref t ∧ H t = some (.tup [.int 0, v, .int l]) ∧ CAt H v c ∧ Mild c l
  | .jn v o l => ∃ t a u1 u2, x = .ref t ∧ H t = some (.tup [.int 1, v, .int l]) ∧ v = .ref a ∧ H a = some (.tup [.str (opS o), u1, u2])
theorem ItemAt.ext {S : Addr → Prop} {H H' : Hp} (e : Ext S H H') {x : V} : ∀ {i : Item}, ItemAt H x i → ItemAt H' x i
  | .ev _ _ _, ⟨t, e1, h, c, ok⟩ => ⟨t, e1, e.tup _ _ h, c.ext e, ok⟩
  | .jn _ _ _, ⟨t, a, u1, u2, e1, h, e2, h2⟩ => ⟨t, a, u1, u2, e1, e.tup _ _ h, e2, e.tup _ _ h2⟩
def DoneAt (H0 H : Hp) (wl dl : Addr) (n : Nat) (x : V) (bs : List Bool) : Prop := ∃ p, x = .ref p ∧ H0 p = none ∧ p ≠ wl ∧ p ≠ dl ∧ H p = some (.lst (bs.map V.bl)) ∧ bs.length = n
def two (wl dl : Addr) : Addr → Prop := fun b => b = wl ∨ b = dl
theorem DoneAt.ext {wl dl : Addr} {n : Nat} {H0 H H' : Hp} (e : Ext (two wl dl) H H') {x : V} {bs : List Bool} (h : DoneAt H0 H wl dl n x bs) : DoneAt H0 H' wl dl n x bs := by
  obtain ⟨p, e1, n0, n1, n2, h, hn⟩ := h
  exact ⟨p, e1, n0, n1, n2, e.lst (fun z => z.elim n1 n2) h, hn⟩
theorem Paired.mapQ {α β : Type} {F G : α → β → Prop} {l₁ : List α} {l₂ : List β} (h : Paired F l₁ l₂) (f : ∀ a b, F a b → G a b) : Paired G l₁ l₂ := L2.Paired.mapP h f
structure MS (H0 : Hp) (lo hi : Int) (goal : List Bool) (wl dl : Addr) (its : List Item) (H : Hp) : Prop where
  ex : Ex H0 H
  nw : H0 wl = none
  ndl : H0 dl = none
  ne : wl ≠ dl
  st : ∃ (ys zs : List V) (ds : List (List Bool)), H wl = some (.lst ys.reverse) ∧ H dl = some (.lst zs.reverse) ∧ Paired (ItemAt H) ys its ∧ Paired (DoneAt H0 H wl dl (hi - lo).toNat) zs ds ∧ runW lo hi its ds = [goal] ∧ zs.length + wts its ≤ 10000
theorem last_rev (x : V) (r : List V) : (x :: r).reverse[(x :: r).reverse.length - 1]? = some x := by
  rw [List.reverse_cons, List.length_append, List.length_singleton, Nat.add_sub_cancel, List.getElem?_append_right (Nat.le_refl _), Nat.sub_self]
  rfl
theorem drop_rev (x : V) (r : List V) : (x :: r).reverse.dropLast = r.reverse := by
  rw [List.reverse_cons, List.dropLast_concat]
theorem sz_le : ∀ {d : Nat} {c : Cal}, Good d c → sz c + 2 ≤ 3 * 2 ^ d
  | d, .every _ _ _, _ => by
    show 1 + 2 ≤ 3 * 2 ^ d
    have := Nat.one_le_two_pow (n := d); omega
  | d, .list _, _ => by
    show 1 + 2 ≤ 3 * 2 ^ d
    have := Nat.one_le_two_pow (n := d); omega
  | 0, .pair _ _ _, h => h.elim
  | 0, .moved _ _, h => h.elim
  | d + 1, .pair _ c e, h => by
    have h1 := sz_le h.1
    have h2 := sz_le h.2
    show sz c + sz e + 2 + 2 ≤ 3 * 2 ^ (d + 1)
    rw [Nat.pow_succ]; omega
  | d + 1, .moved c _, h => by
    have h1 := sz_le h.1
    have := Nat.one_le_two_pow (n := d)
    show sz c + 1 + 2 ≤ 3 * 2 ^ (d + 1)
    rw [Nat.pow_succ]; omega
theorem sz_ok {d : Nat} {c : Cal} (h : Good d c) (hd : d ≤ 10) : sz c ≤ 10000 := by
  have h1 := sz_le h
  have : 2 ^ d ≤ 2 ^ 10 := Nat.pow_le_pow_right (by decide) hd
  have e : (2 : Nat) ^ 10 = 1024 := by decide
  omega
theorem calOk_of_good {d : Nat} {c : Cal} (h : Good d c) (hd : d ≤ 10) : CalOk c 0 := ⟨mild_of_good h (Int.le_refl _) (by omega), sz_ok h hd⟩
theorem paired_len {α β : Type} {F : α → β → Prop} {l₁ : List α} {l₂ : List β} (h : Paired F l₁ l₂) : l₁.length = l₂.length := Paired.length h
theorem len_wts : ∀ its : List Item, its.length ≤ wts its
  | [] => Nat.le_refl _
  | i :: its => by
    have h := len_wts its
    have h1 : 1 ≤ wt i := by
      cases i with
      | ev _ c _ => exact sz_pos c
      | jn _ _ _ => exact Nat.le_refl _
    show its.length + 1 ≤ wt i + wts its
    omega
theorem le1 : 1 ≤ sizeLine := few' (by decide)
theorem le2 : 2 ≤ sizeLine := few' (by decide)
theorem le3 : 3 ≤ sizeLine := few' (by decide)
theorem le4 : 4 ≤ sizeLine := few' (by decide)
def FitsM (lo hi : Int) : Prop := -9000000 ≤ lo ∧ lo ≤ 9000000 ∧ hi ≤ 9000000 ∧ -9000000 ≤ hi ∧ hi - lo ≤ 1000000
def spMarks : Sp := fun vs H Q _ => ∃ (v : V) (c : Cal) (lo hi : Int), vs = [v, .int lo, .int hi] ∧ CAt H v c ∧ CalOk c 0 ∧ FitsM lo hi ∧
  ∀ H' p, Ex H H' → H p = none → H' p = some (.lst ((mks c lo hi).map V.bl)) → Q (.ref p) H'
/-- what is known of the module's names -/
structure Names (K : PySem.W.Frag) (mg : Str → Option Value) : Prop where
  begin_ : ∃ t, mg "BEGIN" = some (.int 0 t)
  join_ : ∃ t, mg "JOIN" = some (.int 1 t)
  paired : ∃ a, mg "PAIRED" = some (.ref a) ∧ ∀ H, SqT K H a [.str "both", .str "common", .str "without"]
section
variable {P : Program} {w : World} {K : PySem.W.Frag} {mg : Str → Option Value} {base : Heap}
theorem ok_marks {f fJ fL : Addr} {fd fdJ fdL : FuncData} {k : Nat} (F : Fun K "_marks" "_marks" sMarks f fd) (T : Names K mg)
    (GJ : FnOk P w K mg base CX0 k fJ fdJ ["word", "first", "second"] spJoined) (gJ : mg "_joined_marks" = some (.ref fJ)) (kJ : PySem.W.keepIn K (.ref fJ) = true) (bJ : Binds K fdJ ["word", "first", "second"] [])
    (GL : FnOk P w K mg base CX0 k fL fdL ["part", "low", "high"] spLeaf) (gL : mg "_leaf_marks" = some (.ref fL)) (kL : PySem.W.keepIn K (.ref fL) = true) (bL : Binds K fdL ["part", "low", "high"] []) :
    FnOk P w K mg base CX0 (k + 1) f fd ["c", "low", "high"] spMarks := by
  refine F.ok scMarks (fun vs H Q E h => ?_) (fun cdv A outer s H vs Q E hr h => ?_)
  · obtain ⟨v, c, lo, hi, rfl, _⟩ := h
    rfl
  · obtain ⟨v, c, lo, hi, rfl, hc, hok, ⟨b1, b2, b3, b4, b5⟩, q⟩ := h
    have nd := scMarks.nd
    obtain ⟨tB, mB⟩ := T.begin_
    obtain ⟨tJ, mJ⟩ := T.join_
    obtain ⟨aP, mP, hP⟩ := T.paired
    refine ⟨_, pss_cons (ps_set (i := 3) nd rfl (.inl rfl) (pe_lst pa_nil))
      (pss_cons (ps_set (i := 4) nd rfl (.inl rfl) (pe_lst (pa_cons (pe_tup (pa_cons (pe_glob (v := .int 0) (by rfl) mB ⟨_, rfl⟩) (pa_cons (pv 0) (pa_cons pe_int pa_nil)))) pa_nil)))
      (pss_cons (ps_while PassesOwn.never (pt_truth (pv 4) (by intro _; rfl))
        (pss_cons (ps_asg (pe_bm0 PySem.F.plainAttrs_list PySem.F.slot_list_pop PySem.F.type_list_pop mt_pop (pv 4)) (pg_three (i := 5) (j := 6) (l := 7) nd rfl rfl rfl rfl rfl rfl rfl))
        (pss_one (ps_if (pt_cmpR op_eq (pv 5) (pe_glob (v := .int 1) (by rfl) mJ ⟨_, rfl⟩) (nomark _))
          (pss_cons (ps_set (i := 8) nd rfl (.inl rfl) (pe_bm0 PySem.F.plainAttrs_list PySem.F.slot_list_pop PySem.F.type_list_pop mt_pop (pv 3)))
          (pss_cons (ps_set (i := 9) nd rfl (.inl rfl) (pe_bm0 PySem.F.plainAttrs_list PySem.F.slot_list_pop PySem.F.type_list_pop mt_pop (pv 3)))
          (pss_one (ps_expr (pe_bm PySem.F.plainAttrs_list PySem.F.slot_list_append PySem.F.type_list_append mt_append (pv 3) (pa_cons (pe_call GJ hr (by rfl) gJ kJ bJ .nil pass0 (pa_cons (pe_ix ix_tup (pv 6) pe_int (fun _ _ => rfl)) (pa_cons (pv 9) (pa_cons (pv 8) pa_nil)))) pa_nil))))))
          (pss_one (ps_if (pt_cmpR op_eq (pe_ix ix_tup (pv 6) pe_int (fun _ _ => rfl)) pe_str (nomark _))
            (pss_one (ps_expr (pe_bm PySem.F.plainAttrs_list PySem.F.slot_list_append PySem.F.type_list_append mt_append (pv 4) (pa_cons (pe_tup (pa_cons (pe_glob (v := .int 0) (by rfl) mB ⟨_, rfl⟩) (pa_cons (pe_ix ix_tup (pv 6) pe_int (fun _ _ => rfl)) (pa_cons (pe_op op_add (pv 7) (pe_ix ix_tup (pv 6) pe_int (fun _ _ => rfl))) pa_nil)))) pa_nil))))
            (pss_one (ps_if (pt_cmpR op_in_seq (pe_ix ix_tup (pv 6) pe_int (fun _ _ => rfl)) (pe_glob (v := .ref aP) (by rfl) mP rfl) (by rfl))
              (pss_one (ps_expr (pe_bm PySem.F.plainAttrs_list PySem.F.slot_list_extend PySem.F.type_list_extend mt_extend (pv 4) (pa_cons (pe_lst
                (pa_cons (pe_tup (pa_cons (pe_glob (v := .int 1) (by rfl) mJ ⟨_, rfl⟩) (pa_cons (pv 6) (pa_cons (pv 7) pa_nil))))
                (pa_cons (pe_tup (pa_cons (pe_glob (v := .int 0) (by rfl) mB ⟨_, rfl⟩) (pa_cons (pe_ix ix_tup (pv 6) pe_int (fun _ _ => rfl)) (pa_cons (pv 7) pa_nil))))
                (pa_cons (pe_tup (pa_cons (pe_glob (v := .int 0) (by rfl) mB ⟨_, rfl⟩) (pa_cons (pe_ix ix_tup (pv 6) pe_int (fun _ _ => rfl)) (pa_cons (pv 7) pa_nil)))) pa_nil)))) pa_nil))))
              (pss_one (ps_expr (pe_bm PySem.F.plainAttrs_list PySem.F.slot_list_append PySem.F.type_list_append mt_append (pv 3) (pa_cons (pe_call GL hr (by rfl) gL kL bL .nil pass0 (pa_cons (pv 6) (pa_cons (pe_op op_sub (pv 1) (pv 7)) (pa_cons (pe_op op_sub (pv 2) (pv 7)) pa_nil)))) pa_nil))))))))))))
      (pss_one (ps_ret (pe_ix ix_list (pv 3) pe_int (fun _ _ => rfl)))))), ?_⟩
    -- done = [], waiting = [..]
    refine ⟨Nat.zero_le _, fun dl ndl => ⟨v, rfl, le3, fun t nt => ⟨le1, fun wl nw => ?_⟩⟩⟩
    have nt0 : H t = none := by
      by_cases z : t = dl
      · rw [z]; exact ndl
      · rw [upd_ne z] at nt; exact nt
    have ntd : t ≠ dl := fun z => by rw [z, upd_same] at nt; cases nt
    have nwt : wl ≠ t := fun z => by rw [z, upd_same] at nw; cases nw
    have nwd : wl ≠ dl := fun z => by rw [z, upd_ne (Ne.symm ntd), upd_same] at nw; cases nw
    have nw0 : H wl = none := by rw [upd_ne nwt, upd_ne nwd] at nw; exact nw
    have ex0 : Ex H (upd (upd (upd H dl (.lst [])) t (.tup [.int 0, v, .int 0])) wl (.lst [.ref t])) := ((Ext.upd1 ndl).updN nt0).updN nw0
    have ms0 : MS H lo hi (mks c lo hi) wl dl [.ev v c 0] (upd (upd (upd H dl (.lst [])) t (.tup [.int 0, v, .int 0])) wl (.lst [.ref t])) := by
      refine ⟨ex0, nw0, ndl, nwd, [.ref t], [], [], upd_same, ?_, .cons ⟨t, rfl, ?_, hc.ext ex0, hok.1⟩ .nil, .nil, ?_, ?_⟩
      · rw [upd_ne (Ne.symm nwd), upd_ne (Ne.symm ntd), upd_same]
        rfl
      · rw [upd_ne (Ne.symm nwt), upd_same]
      · show [mks c (lo - 0) (hi - 0)] = _
        rw [Int.sub_zero, Int.sub_zero]
      · have := hok.2
        show 0 + (sz c + 0) ≤ 10000
        omega
    refine ⟨fun m σ H' => ∃ its y5 y6 y7 y8 y9, σ = [some v, some (.int lo), some (.int hi), some (.ref dl), some (.ref wl), y5, y6, y7, y8, y9] ∧ m = wts its ∧ MS H lo hi (mks c lo hi) wl dl its H',
      ⟨_, [.ev v c 0], none, none, none, none, none, rfl, rfl, ms0⟩, fun m σ H' hW => ?_⟩
    obtain ⟨its, y5, y6, y7, y8, y9, rfl, rfl, ex, _, _, _, ys, zs, ds, hw, hd, pi, pd, run, size⟩ := hW
    cases pi with
    | nil =>
      refine ⟨.ref wl, rfl, false, .inl ⟨_, sqL_of hw, rfl⟩, iteF ?_⟩
      obtain rfl : ds = [mks c lo hi] := run
      cases pd with
      | cons h0 hr0 =>
        cases hr0
        obtain ⟨p, rfl, n0, n1, n2, hp, _⟩ := h0
        exact ⟨.ref dl, rfl, dl, _, 0, .ref p, rfl, rfl, sqL_of hd, atI_nat (j := 0) rfl, q H' p ex n0 hp⟩
    | @cons y it ys its hy pi =>
      have eb : (!(y :: ys).reverse.isEmpty) = true := by
        rw [List.isEmpty_reverse]; rfl
      refine ⟨.ref wl, rfl, true, .inl ⟨_, sqL_of hw, eb.symm⟩, iteT ⟨fun σ' H'' => ∃ m', m' < wts (it :: its) ∧ ∃ its y5 y6 y7 y8 y9, σ' = [some v, some (.int lo), some (.int hi), some (.ref dl), some (.ref wl), y5, y6, y7, y8, y9] ∧ m' = wts its ∧ MS H lo hi (mks c lo hi) wl dl its H'', fun _ _ z => z, ?_⟩⟩
      have lys : ys.length ≤ wts its := by rw [paired_len pi]; exact len_wts its
      have wits : wts (it :: its) = wt it + wts its := rfl
      refine ⟨.ref wl, rfl, .inl ⟨rfl, _, sqL_of hw⟩, wl, _, y, rfl, rfl, hw, last_rev y ys, ?_⟩
      rw [drop_rev]
      have e12 : Ext (two wl dl) H' (upd H' wl (.lst ys.reverse)) := Ext.refl.updS (.inl rfl) hw (fun _ z => by cases z) fun _ z => by cases z
      have ex2 : Ex H (upd H' wl (.lst ys.reverse)) := ex.updN nw0
      have hw2 : upd H' wl (.lst ys.reverse) wl = some (.lst ys.reverse) := upd_same
      have hd2 : upd H' wl (.lst ys.reverse) dl = some (.lst zs.reverse) := by rw [upd_ne (Ne.symm nwd)]; exact hd
      have pi2 : Paired (ItemAt (upd H' wl (.lst ys.reverse))) ys its := Paired.mapQ pi fun _ _ z => z.ext e12
      have pd2 : Paired (DoneAt H (upd H' wl (.lst ys.reverse)) wl dl (hi - lo).toNat) zs ds := Paired.mapQ pd fun _ _ z => z.ext e12
      have hy2 : ItemAt (upd H' wl (.lst ys.reverse)) y it := hy.ext e12
      generalize upd H' wl (.lst ys.reverse) = H2 at *
      cases it with
      | jn v1 o l =>
        obtain ⟨t1, a, u1, u2, rfl, ht1, rfl, ha⟩ := hy2
        refine ⟨t1, _, rfl, sqT_of ht1, rfl, .int 1, _, rfl, .ref a, _, rfl, .int l, _, rfl, rfl, ?_⟩
        refine ⟨.int 1, rfl, rfl, _, rfl, ite2 (fun _ => ?_) (fun e => absurd (decide_eq_true rfl) e)⟩
        cases pd2 with
        | nil => exact nomatch (show ([] : List (List Bool)) = [mks c lo hi] from run)
        | @cons z1 bs zr dr h1 pd2' =>
         cases pd2' with
         | nil => exact nomatch (show ([] : List (List Bool)) = [mks c lo hi] from run)
         | @cons z2 bf zs2 ds h2 pd3 =>
          obtain ⟨p1, rfl, m0, m1, m2, hp1, g1⟩ := h1
          obtain ⟨p2, rfl, k0, k1, k2, hp2, g2⟩ := h2
          -- second = done.pop()
          refine ⟨.ref dl, rfl, .inl ⟨rfl, _, sqL_of hd2⟩, dl, _, .ref p1, rfl, rfl, hd2, last_rev _ _, ?_⟩
          rw [drop_rev]
          have hd3 : upd H2 dl (.lst (.ref p2 :: zs2).reverse) dl = some (.lst (.ref p2 :: zs2).reverse) := upd_same
          -- first = done.pop()
          refine ⟨.ref dl, rfl, .inl ⟨rfl, _, sqL_of hd3⟩, dl, _, .ref p2, rfl, rfl, hd3, last_rev _ _, ?_⟩
          rw [drop_rev, upd_upd]
          have e23 : Ext (two wl dl) H2 (upd H2 dl (.lst zs2.reverse)) := Ext.refl.updS (.inr rfl) hd2 (fun _ z => by cases z) fun _ z => by cases z
          have ex3 : Ex H (upd H2 dl (.lst zs2.reverse)) := ex2.updN ndl
          have hw3 : upd H2 dl (.lst zs2.reverse) wl = some (.lst ys.reverse) := by rw [upd_ne nwd]; exact hw2
          have hdd : upd H2 dl (.lst zs2.reverse) dl = some (.lst zs2.reverse) := upd_same
          have hq1 := e23.lst (fun z => z.elim m1 m2) hp1
          have hq2 := e23.lst (fun z => z.elim k1 k2) hp2
          have ha3 := e23.tup _ _ ha
          -- done.append(_joined_marks(part[0], first, second))
          refine ⟨.ref dl, rfl, .inl ⟨rfl, _, sqL_of hdd⟩, .ref a, rfl, a, _, 0, .str (opS o), rfl, rfl, sqT_of ha3, atI_nat (j := 0) rfl, .ref p2, rfl, .ref p1, rfl, ?_⟩
          refine ⟨o, p2, p1, bf, bs, rfl, hq2, hq1, by omega, by omega, fun H4 p e34 np hp => ?_⟩
          have hd4 := e34.lst not0 hdd
          have hw4 := e34.lst not0 hw3
          have ex4 := ex3.trans e34
          have pnd : p ≠ dl := fun z => by rw [z, hdd] at np; cases np
          have pnw : p ≠ wl := fun z => by rw [z, hw3] at np; cases np
          have zl : zs2.length + 2 + wts its + 1 ≤ 10000 := by
            have : ((V.ref p1 :: V.ref p2 :: zs2).length) + wts (.jn (.ref a) o l :: its) ≤ 10000 := size
            have e : wts (.jn (.ref a) o l :: its) = 1 + wts its := rfl
            simp only [List.length_cons] at this
            omega
          refine ⟨dl, _, _, rfl, rfl, hd4, by rw [List.length_reverse]; exact few (by omega), ?_⟩
          have e45 : Ext (two wl dl) H4 (upd H4 dl (.lst (zs2.reverse ++ [.ref p]))) := Ext.refl.updS (.inr rfl) hd4 (fun _ z => by cases z) fun _ z => by cases z
          have e25 : Ext (two wl dl) H2 (upd H4 dl (.lst (zs2.reverse ++ [.ref p]))) := (e23.trans (Ext.of0 e34)).trans e45
          refine ⟨_, ?_, its, _, _, _, _, _, rfl, rfl, ex4.updN ndl, nw0, ndl, nwd, ys, .ref p :: zs2, List.zipWith o.fn bf bs :: ds, ?_, ?_, Paired.mapQ pi2 fun _ _ z => z.ext e25, .cons ⟨p, rfl, ex3.fre _ np, pnw, pnd, ?_, ?_⟩ (Paired.mapQ pd3 fun _ _ z => z.ext e25), run, ?_⟩
          · rw [wits]; show wts its < 1 + wts its; omega
          · rw [upd_ne nwd]; exact hw4
          · rw [upd_same, List.reverse_cons]
          · rw [upd_ne pnd]; exact hp
          · rw [List.length_zipWith]; omega
          · rw [List.length_cons]; omega
      | ev v1 c1 l =>
        obtain ⟨t1, rfl, ht1, hc1, gd1⟩ := hy2
        obtain ⟨l0, lb⟩ := gd1.b
        refine ⟨t1, _, rfl, sqT_of ht1, rfl, .int 0, _, rfl, v1, _, rfl, .int l, _, rfl, rfl, ?_⟩
        refine ⟨.int 0, rfl, rfl, _, rfl, ite2 (fun e => absurd (of_decide_eq_true e) (by decide)) (fun _ => ?_)⟩
        have zl : zs.length + wt (.ev v1 c1 l) + wts its ≤ 10000 := by
          have e : wts (.ev v1 c1 l :: its) = wt (.ev v1 c1 l) + wts its := rfl
          omega
        -- behind a leaf's marks
        have leafEnd : ∀ (H3 : Hp) (p : Addr) (z5 z6 z7 z8 z9 : Option V), wt (.ev v1 c1 l) = 1 → Ex H2 H3 → H2 p = none → H3 p = some (.lst ((mks c1 (lo - l) (hi - l)).map V.bl)) →
            H3 dl = some (.lst zs.reverse) ∧ zs.reverse.length < sizeLine ∧ ∃ m', m' < wts (.ev v1 c1 l :: its) ∧ ∃ its y5 y6 y7 y8 y9,
              [some v, some (.int lo), some (.int hi), some (.ref dl), some (.ref wl), z5, z6, z7, z8, z9] = [some v, some (.int lo), some (.int hi), some (.ref dl), some (.ref wl), y5, y6, y7, y8, y9] ∧ m' = wts its ∧
              MS H lo hi (mks c lo hi) wl dl its (upd H3 dl (.lst (zs.reverse ++ [.ref p]))) := by
          intro H3 p z5 z6 z7 z8 z9 h1 e23 np hp
          have hd3 := e23.lst not0 hd2
          have hw3 := e23.lst not0 hw2
          have pnd : p ≠ dl := fun z => by rw [z, hd2] at np; cases np
          have pnw : p ≠ wl := fun z => by rw [z, hw2] at np; cases np
          have e34 : Ext (two wl dl) H3 (upd H3 dl (.lst (zs.reverse ++ [.ref p]))) := Ext.refl.updS (.inr rfl) hd3 (fun _ z => by cases z) fun _ z => by cases z
          have e24 := (Ext.of0 (S := two wl dl) e23).trans e34
          refine ⟨hd3, by rw [List.length_reverse]; exact few (by omega), _, ?_, its, _, _, _, _, _, rfl, rfl, (ex2.trans e23).updN ndl, nw0, ndl, nwd, ys, .ref p :: zs, mks c1 (lo - l) (hi - l) :: ds, ?_, ?_, Paired.mapQ pi2 fun _ _ z => z.ext e24,
            .cons ⟨p, rfl, ex2.fre _ np, pnw, pnd, ?_, ?_⟩ (Paired.mapQ pd2 fun _ _ z => z.ext e24), run, ?_⟩
          · rw [wits]; omega
          · rw [upd_ne nwd]; exact hw3
          · rw [upd_same, List.reverse_cons]
          · rw [upd_ne pnd]; exact hp
          · rw [mks_len]; congr 1; omega
          · rw [List.length_cons]; omega
        have fit : Fits (lo - l) (hi - l) := ⟨by omega, by omega, by omega, by omega, by omega⟩
        cases hc1 with
        | @every a kk ss ee ha =>
          have lf : IsLeaf (.every kk ss ee) := gd1.1
          refine ⟨.ref a, rfl, a, _, 0, .str "every", rfl, rfl, sqT_of ha, atI_nat (j := 0) rfl, rfl, _, rfl, ite2 (fun e => absurd (of_decide_eq_true e) (by decide)) (fun _ => ?_)⟩
          refine ⟨.ref a, rfl, a, _, 0, .str "every", rfl, rfl, sqT_of ha, atI_nat (j := 0) rfl, aP, _, rfl, .inr (hP _), rfl, rfl, _, rfl, ite2 (fun e => absurd e (by decide)) (fun _ => ?_)⟩
          refine ⟨.ref dl, rfl, .inl ⟨rfl, _, sqL_of hd2⟩, .ref a, rfl, .int lo, rfl, .int l, rfl, lo, l, rfl, rfl, .int hi, rfl, .int l, rfl, hi, l, rfl, rfl, .ref a, _, lo - l, hi - l, rfl, .every ha, lf, fit, fun H3 p e np hp => ?_⟩
          obtain ⟨g1, g2, g3⟩ := leafEnd H3 p (some (.int 0)) (some (.ref a)) (some (.int l)) y8 y9 rfl e np hp
          exact ⟨dl, _, _, rfl, rfl, g1, g2, g3⟩
        | @list a b ts ha hb =>
          have lf : IsLeaf (.list ts) := gd1.1
          refine ⟨.ref a, rfl, a, _, 0, .str "list", rfl, rfl, sqT_of ha, atI_nat (j := 0) rfl, rfl, _, rfl, ite2 (fun e => absurd (of_decide_eq_true e) (by decide)) (fun _ => ?_)⟩
          refine ⟨.ref a, rfl, a, _, 0, .str "list", rfl, rfl, sqT_of ha, atI_nat (j := 0) rfl, aP, _, rfl, .inr (hP _), rfl, rfl, _, rfl, ite2 (fun e => absurd e (by decide)) (fun _ => ?_)⟩
          refine ⟨.ref dl, rfl, .inl ⟨rfl, _, sqL_of hd2⟩, .ref a, rfl, .int lo, rfl, .int l, rfl, lo, l, rfl, rfl, .int hi, rfl, .int l, rfl, hi, l, rfl, rfl, .ref a, _, lo - l, hi - l, rfl, .list ha hb, lf, fit, fun H3 p e np hp => ?_⟩
          obtain ⟨g1, g2, g3⟩ := leafEnd H3 p (some (.int 0)) (some (.ref a)) (some (.int l)) y8 y9 rfl e np hp
          exact ⟨dl, _, _, rfl, rfl, g1, g2, g3⟩
        | @moved a v2 c2 n ha hc2 =>
            refine ⟨.ref a, rfl, a, _, 0, .str "moved", rfl, rfl, sqT_of ha, atI_nat (j := 0) rfl, rfl, _, rfl, ite2 (fun _ => ?_) (fun e => absurd (decide_eq_true rfl) e)⟩
            refine ⟨.ref wl, rfl, .inl ⟨rfl, _, sqL_of hw2⟩, .ref a, rfl, a, _, 1, v2, rfl, rfl, sqT_of ha, atI_nat (j := 1) rfl, .int l, rfl, .ref a, rfl, a, _, 2, .int n, rfl, rfl, sqT_of ha, atI_nat (j := 2) rfl, l, n, rfl, rfl, le3, fun t2 nt2 => ?_⟩
            have t2w : t2 ≠ wl := fun z => by rw [z, hw2] at nt2; cases nt2
            have t2d : t2 ≠ dl := fun z => by rw [z, hd2] at nt2; cases nt2
            have e23 : Ex H2 (upd H2 t2 (.tup [.int 0, v2, .int (l + n)])) := Ext.upd1 nt2
            have hw3 := e23.lst not0 hw2
            refine ⟨wl, _, _, rfl, rfl, hw3, by rw [List.length_reverse]; exact few (by omega), ?_⟩
            have e34 : Ext (two wl dl) (upd H2 t2 (.tup [.int 0, v2, .int (l + n)])) (upd (upd H2 t2 (.tup [.int 0, v2, .int (l + n)])) wl (.lst (ys.reverse ++ [.ref t2]))) := Ext.refl.updS (.inl rfl) hw3 (fun _ z => by cases z) fun _ z => by cases z
            have e24 := (Ext.of0 (S := two wl dl) e23).trans e34
            refine ⟨_, ?_, .ev v2 c2 (l + n) :: its, _, _, _, _, _, rfl, rfl, (ex2.trans e23).updN nw0, nw0, ndl, nwd, .ref t2 :: ys, zs, ds, ?_, ?_, .cons ⟨t2, rfl, ?_, hc2.ext e24, gd1.2.1⟩ (Paired.mapQ pi2 fun _ _ z => z.ext e24), Paired.mapQ pd2 fun _ _ z => z.ext e24, ?_, ?_⟩
            · rw [wits]; show sz c2 + wts its < sz c2 + 1 + wts its; omega
            · rw [upd_same, List.reverse_cons]
            · rw [upd_ne (Ne.symm nwd)]; exact e23.lst not0 hd2
            · rw [upd_ne t2w, upd_same]
            · show runW lo hi its (mks c2 (lo - (l + n)) (hi - (l + n)) :: ds) = _
              rw [mks_moved]
              exact run
            · have e9 : wts (.ev v2 c2 (l + n) :: its) = sz c2 + wts its := rfl
              have e8 : wt (.ev (.ref a) (.moved c2 n) l) = sz c2 + 1 := rfl
              rw [e9]; omega
        | @pair a o v2 w2 c2 c3 ha hc2 hc3 =>
            refine ⟨.ref a, rfl, a, _, 0, .str (opS o), rfl, rfl, sqT_of ha, atI_nat (j := 0) rfl, rfl, _, rfl, ite2 (fun e => absurd (of_decide_eq_true e) (by cases o <;> decide)) (fun _ => ?_)⟩
            refine ⟨.ref a, rfl, a, _, 0, .str (opS o), rfl, rfl, sqT_of ha, atI_nat (j := 0) rfl, aP, _, rfl, .inr (hP _), rfl, rfl, _, rfl, ite2 (fun _ => ?_) (fun e => absurd (show _ = true by cases o <;> decide) e)⟩
            refine ⟨.ref wl, rfl, .inl ⟨rfl, _, sqL_of hw2⟩, .ref a, rfl, .int l, rfl, le3, fun ta nta => ?_⟩
            have ea : Ex H2 (upd H2 ta (.tup [.int 1, .ref a, .int l])) := Ext.upd1 nta
            refine ⟨.ref a, rfl, a, _, 2, w2, rfl, rfl, sqT_of (ea.tup _ _ ha), atI_nat (j := 2) rfl, .int l, rfl, le3, fun tb ntb => ?_⟩
            have eb' := ea.trans (Ext.upd1 (S := S0) (o := .tup [.int 0, w2, .int l]) ntb)
            refine ⟨.ref a, rfl, a, _, 1, v2, rfl, rfl, sqT_of (eb'.tup _ _ ha), atI_nat (j := 1) rfl, .int l, rfl, le3, fun tc ntc => ⟨le3, fun lb nlb => ?_⟩⟩
            have ec := eb'.trans (Ext.upd1 (S := S0) (o := .tup [.int 0, v2, .int l]) ntc)
            have el := ec.trans (Ext.upd1 (S := S0) (o := .lst [.ref ta, .ref tb, .ref tc]) nlb)
            have ha5 : upd (upd (upd (upd H2 ta (.tup [.int 1, .ref a, .int l])) tb (.tup [.int 0, w2, .int l])) tc (.tup [.int 0, v2, .int l])) lb (.lst [.ref ta, .ref tb, .ref tc]) ta = some (.tup [.int 1, .ref a, .int l]) :=
              ((Ext.upd1 (S := S0) ntb).trans ((Ext.upd1 (S := S0) ntc).trans (Ext.upd1 nlb))).tup _ _ upd_same
            have hb5 : upd (upd (upd (upd H2 ta (.tup [.int 1, .ref a, .int l])) tb (.tup [.int 0, w2, .int l])) tc (.tup [.int 0, v2, .int l])) lb (.lst [.ref ta, .ref tb, .ref tc]) tb = some (.tup [.int 0, w2, .int l]) :=
              ((Ext.upd1 (S := S0) ntc).trans (Ext.upd1 nlb)).tup _ _ upd_same
            have hc5 : upd (upd (upd (upd H2 ta (.tup [.int 1, .ref a, .int l])) tb (.tup [.int 0, w2, .int l])) tc (.tup [.int 0, v2, .int l])) lb (.lst [.ref ta, .ref tb, .ref tc]) tc = some (.tup [.int 0, v2, .int l]) :=
              (Ext.upd1 (S := S0) nlb).tup _ _ upd_same
            have hl5 : upd (upd (upd (upd H2 ta (.tup [.int 1, .ref a, .int l])) tb (.tup [.int 0, w2, .int l])) tc (.tup [.int 0, v2, .int l])) lb (.lst [.ref ta, .ref tb, .ref tc]) lb = some (.lst [.ref ta, .ref tb, .ref tc]) := upd_same
            have hw5 := el.lst not0 hw2
            have hd5 := el.lst not0 hd2
            refine ⟨wl, lb, _, _, rfl, rfl, hw5, hl5, by rw [List.length_reverse]; exact few' (by show ys.length + 3 ≤ _; omega), ?_⟩
            generalize upd (upd (upd (upd H2 ta (.tup [.int 1, .ref a, .int l])) tb (.tup [.int 0, w2, .int l])) tc (.tup [.int 0, v2, .int l])) lb (.lst [.ref ta, .ref tb, .ref tc]) = H5 at *
            have e56 : Ext (two wl dl) H5 (upd H5 wl (.lst (ys.reverse ++ [.ref ta, .ref tb, .ref tc]))) := Ext.refl.updS (.inl rfl) hw5 (fun _ z => by cases z) fun _ z => by cases z
            have e26 := (Ext.of0 (S := two wl dl) el).trans e56
            refine ⟨_, ?_, .ev v2 c2 l :: .ev w2 c3 l :: .jn (.ref a) o l :: its, _, _, _, _, _, rfl, rfl, (ex2.trans el).updN nw0, nw0, ndl, nwd, .ref tc :: .ref tb :: .ref ta :: ys, zs, ds, ?_, ?_,
              .cons ⟨tc, rfl, e56.tup _ _ hc5, hc2.ext e26, gd1.1⟩ (.cons ⟨tb, rfl, e56.tup _ _ hb5, hc3.ext e26, gd1.2⟩ (.cons ⟨ta, a, _, _, rfl, e56.tup _ _ ha5, rfl, e26.tup _ _ ha⟩ (Paired.mapQ pi2 fun _ _ z => z.ext e26))),
              Paired.mapQ pd2 fun _ _ z => z.ext e26, ?_, ?_⟩
            · rw [wits]; show sz c2 + (sz c3 + (1 + wts its)) < sz c2 + sz c3 + 2 + wts its; omega
            · rw [upd_same]; simp
            · rw [upd_ne (Ne.symm nwd)]; exact hd5
            · show runW lo hi its (List.zipWith o.fn (mks c2 (lo - l) (hi - l)) (mks c3 (lo - l) (hi - l)) :: ds) = _
              rw [mks_pair]
              exact run
            · have e9 : wts (.ev v2 c2 l :: .ev w2 c3 l :: .jn (.ref a) o l :: its) = sz c2 + (sz c3 + (1 + wts its)) := rfl
              have e8 : wt (.ev (.ref a) (.pair o c2 c3) l) = sz c2 + sz c3 + 2 := rfl
              rw [e9]; omega
end
end Days
set_option Elab.async false
set_option linter.all false
set_option maxRecDepth 100000
set_option maxHeartbeats 4000000
namespace Days
open PySem PySem.Spec PyProof.Rows L2 Y3 Cl
def LeafAt (H : Hp) (x : V) (p : Cal × Int) : Prop := ∃ t v, x = .ref t ∧ H t = some (.tup [v, .int p.2]) ∧ CAt H v p.1
theorem LeafAt.ext {S : Addr → Prop} {H H' : Hp} (e : Ext S H H') {x : V} {p : Cal × Int} (h : LeafAt H x p) : LeafAt H' x p := by
  obtain ⟨t, v, e1, h, c⟩ := h
  exact ⟨t, v, e1, e.tup _ _ h, c.ext e⟩
def WaitAt (H : Hp) (x : V) (p : Cal × Int) : Prop := LeafAt H x p ∧ Mild p.1 p.2
theorem WaitAt.ext {S : Addr → Prop} {H H' : Hp} (e : Ext S H H') {x : V} {p : Cal × Int} (h : WaitAt H x p) : WaitAt H' x p := ⟨h.1.ext e, h.2⟩
def spLeaves : Sp := fun vs H Q _ => ∃ (v : V) (c : Cal), vs = [v] ∧ CAt H v c ∧ CalOk c 0 ∧
  ∀ H' p xs, Ex H H' → H p = none → H' p = some (.lst xs) → Paired (LeafAt H') xs (leaves c 0) → Q (.ref p) H'
def wtp (its : List (Cal × Int)) : Nat := (its.map fun p => sz p.1).sum
def rest (its : List (Cal × Int)) : List (Cal × Int) := its.flatMap fun p => leaves p.1 p.2
structure LS (H0 : Hp) (goal : List (Cal × Int)) (wl dl : Addr) (its : List (Cal × Int)) (H : Hp) : Prop where
  ex : Ex H0 H
  nw : H0 wl = none
  ndl : H0 dl = none
  ne : wl ≠ dl
  st : ∃ (ys zs : List V) (L : List (Cal × Int)), H wl = some (.lst ys.reverse) ∧ H dl = some (.lst zs) ∧ Paired (WaitAt H) ys its ∧ Paired (LeafAt H) zs L ∧ L ++ rest its = goal ∧ zs.length + wtp its ≤ 10000
theorem len_wtp : ∀ its : List (Cal × Int), its.length ≤ wtp its
  | [] => Nat.le_refl _
  | p :: its => by
    have h := len_wtp its
    have h1 := sz_pos p.1
    show its.length + 1 ≤ sz p.1 + wtp its
    omega
section
variable {P : Program} {w : World} {K : PySem.W.Frag} {mg : Str → Option Value} {base : Heap}
theorem ok_leaves {f : Addr} {fd : FuncData} {k : Nat} (F : Fun K "_leaves_of" "_leaves_of" sLeaves f fd) (T : Names K mg) : FnOk P w K mg base CX0 (k + 1) f fd ["c"] spLeaves := by
  refine F.ok scLeaves (fun vs H Q E h => ?_) (fun cdv A outer s H vs Q E hr h => ?_)
  · obtain ⟨v, c, rfl, _⟩ := h
    rfl
  · obtain ⟨v, c, rfl, hc, hok, q⟩ := h
    have nd := scLeaves.nd
    obtain ⟨aP, mP, hP⟩ := T.paired
    refine ⟨_, pss_cons (ps_set (i := 1) nd rfl (.inl rfl) (pe_lst pa_nil))
      (pss_cons (ps_set (i := 2) nd rfl (.inl rfl) (pe_lst (pa_cons (pe_tup (pa_cons (pv 0) (pa_cons pe_int pa_nil))) pa_nil)))
      (pss_cons (ps_while PassesOwn.never (pt_truth (pv 2) (by intro _; rfl))
        (pss_cons (ps_asg (pe_bm0 PySem.F.plainAttrs_list PySem.F.slot_list_pop PySem.F.type_list_pop mt_pop (pv 2)) (pg_pair (i := 3) (j := 4) nd rfl rfl rfl rfl rfl))
        (pss_one (ps_if (pt_cmpR op_eq (pe_ix ix_tup (pv 3) pe_int (fun _ _ => rfl)) pe_str (nomark _))
          (pss_one (ps_expr (pe_bm PySem.F.plainAttrs_list PySem.F.slot_list_append PySem.F.type_list_append mt_append (pv 2) (pa_cons (pe_tup (pa_cons (pe_ix ix_tup (pv 3) pe_int (fun _ _ => rfl)) (pa_cons (pe_op op_add (pv 4) (pe_ix ix_tup (pv 3) pe_int (fun _ _ => rfl))) pa_nil))) pa_nil))))
          (pss_one (ps_if (pt_cmpR op_in_seq (pe_ix ix_tup (pv 3) pe_int (fun _ _ => rfl)) (pe_glob (v := .ref aP) (by rfl) mP rfl) (by rfl))
            (pss_one (ps_expr (pe_bm PySem.F.plainAttrs_list PySem.F.slot_list_extend PySem.F.type_list_extend mt_extend (pv 2) (pa_cons (pe_lst
              (pa_cons (pe_tup (pa_cons (pe_ix ix_tup (pv 3) pe_int (fun _ _ => rfl)) (pa_cons (pv 4) pa_nil)))
              (pa_cons (pe_tup (pa_cons (pe_ix ix_tup (pv 3) pe_int (fun _ _ => rfl)) (pa_cons (pv 4) pa_nil))) pa_nil))) pa_nil))))
            (pss_one (ps_expr (pe_bm PySem.F.plainAttrs_list PySem.F.slot_list_append PySem.F.type_list_append mt_append (pv 1) (pa_cons (pe_tup (pa_cons (pv 3) (pa_cons (pv 4) pa_nil))) pa_nil))))))))))
      (pss_one (ps_ret (pv 1))))), ?_⟩
    refine ⟨Nat.zero_le _, fun dl ndl => ⟨v, rfl, le2, fun t nt => ⟨le1, fun wl nw => ?_⟩⟩⟩
    have nt0 : H t = none := by
      by_cases z : t = dl
      · rw [z]; exact ndl
      · rw [upd_ne z] at nt; exact nt
    have ntd : t ≠ dl := fun z => by rw [z, upd_same] at nt; cases nt
    have nwt : wl ≠ t := fun z => by rw [z, upd_same] at nw; cases nw
    have nwd : wl ≠ dl := fun z => by rw [z, upd_ne (Ne.symm ntd), upd_same] at nw; cases nw
    have nw0 : H wl = none := by rw [upd_ne nwt, upd_ne nwd] at nw; exact nw
    have ex0 : Ex H (upd (upd (upd H dl (.lst [])) t (.tup [v, .int 0])) wl (.lst [.ref t])) := ((Ext.upd1 ndl).updN nt0).updN nw0
    have ms0 : LS H (leaves c 0) wl dl [(c, 0)] (upd (upd (upd H dl (.lst [])) t (.tup [v, .int 0])) wl (.lst [.ref t])) := by
      refine ⟨ex0, nw0, ndl, nwd, [.ref t], [], [], upd_same, ?_, .cons ⟨⟨t, v, rfl, ?_, hc.ext ex0⟩, hok.1⟩ .nil, .nil, ?_, ?_⟩
      · rw [upd_ne (Ne.symm nwd), upd_ne (Ne.symm ntd), upd_same]
      · rw [upd_ne (Ne.symm nwt), upd_same]
      · show leaves c 0 ++ [] = _
        rw [List.append_nil]
      · have := hok.2
        show 0 + (sz c + 0) ≤ 10000
        omega
    refine ⟨fun m σ H' => ∃ its y3 y4, σ = [some v, some (.ref dl), some (.ref wl), y3, y4] ∧ m = wtp its ∧ LS H (leaves c 0) wl dl its H', ⟨_, [(c, 0)], none, none, rfl, rfl, ms0⟩, fun m σ H' hW => ?_⟩
    obtain ⟨its, y3, y4, rfl, rfl, ex, _, _, _, ys, zs, L, hw, hd, pi, pd, run, size⟩ := hW
    cases pi with
    | nil =>
      refine ⟨.ref wl, rfl, false, .inl ⟨_, sqL_of hw, rfl⟩, iteF ⟨.ref dl, rfl, q H' dl zs ex ndl hd ?_⟩⟩
      have e : L = leaves c 0 := by rw [← run]; show L = L ++ []; rw [List.append_nil]
      rw [← e]
      exact pd
    | @cons y it ys its hy pi =>
      have eb : (!(y :: ys).reverse.isEmpty) = true := by
        rw [List.isEmpty_reverse]; rfl
      refine ⟨.ref wl, rfl, true, .inl ⟨_, sqL_of hw, eb.symm⟩, iteT ⟨fun σ' H'' => ∃ m', m' < wtp (it :: its) ∧ ∃ its y3 y4, σ' = [some v, some (.ref dl), some (.ref wl), y3, y4] ∧ m' = wtp its ∧ LS H (leaves c 0) wl dl its H'', fun _ _ z => z, ?_⟩⟩
      have lys : ys.length ≤ wtp its := by rw [paired_len pi]; exact len_wtp its
      obtain ⟨c1, l⟩ := it
      have wits : wtp ((c1, l) :: its) = sz c1 + wtp its := rfl
      have run1 : L ++ (leaves c1 l ++ rest its) = leaves c 0 := run
      refine ⟨.ref wl, rfl, .inl ⟨rfl, _, sqL_of hw⟩, wl, _, y, rfl, rfl, hw, last_rev y ys, ?_⟩
      rw [drop_rev]
      have e12 : Ext (two wl dl) H' (upd H' wl (.lst ys.reverse)) := Ext.refl.updS (.inl rfl) hw (fun _ z => by cases z) fun _ z => by cases z
      have ex2 : Ex H (upd H' wl (.lst ys.reverse)) := ex.updN nw0
      have hw2 : upd H' wl (.lst ys.reverse) wl = some (.lst ys.reverse) := upd_same
      have hd2 : upd H' wl (.lst ys.reverse) dl = some (.lst zs) := by rw [upd_ne (Ne.symm nwd)]; exact hd
      have pi2 : Paired (WaitAt (upd H' wl (.lst ys.reverse))) ys its := Paired.mapQ pi fun _ _ z => z.ext e12
      have pd2 : Paired (LeafAt (upd H' wl (.lst ys.reverse))) zs L := Paired.mapQ pd fun _ _ z => z.ext e12
      have hy2 := hy.ext e12
      generalize upd H' wl (.lst ys.reverse) = H2 at *
      obtain ⟨⟨t1, v1, rfl, ht1, hc1⟩, gd1⟩ := hy2
      have gd1 : Mild c1 l := gd1
      have hc1 : CAt H2 v1 c1 := hc1
      refine ⟨t1, _, rfl, sqT_of ht1, rfl, v1, _, rfl, .int l, _, rfl, rfl, ?_⟩
      -- behind a leaf
      have leafEnd : ∀ (t2 : Addr) (z3 z4 : Option V), leaves c1 l = [(c1, l)] → sz c1 = 1 → H2 t2 = none →
          upd H2 t2 (.tup [v1, .int l]) dl = some (.lst zs) ∧ zs.length < sizeLine ∧ ∃ m', m' < wtp ((c1, l) :: its) ∧ ∃ its y3 y4, [some v, some (.ref dl), some (.ref wl), z3, z4] = [some v, some (.ref dl), some (.ref wl), y3, y4] ∧ m' = wtp its ∧
            LS H (leaves c 0) wl dl its (upd (upd H2 t2 (.tup [v1, .int l])) dl (.lst (zs ++ [.ref t2]))) := by
        intro t2 z3 z4 hlv hsz nt2
        have e23 : Ex H2 (upd H2 t2 (.tup [v1, .int l])) := Ext.upd1 nt2
        have hd3 := e23.lst not0 hd2
        have hw3 := e23.lst not0 hw2
        have t2d : t2 ≠ dl := fun z => by rw [z, hd2] at nt2; cases nt2
        have e34 : Ext (two wl dl) (upd H2 t2 (.tup [v1, .int l])) (upd (upd H2 t2 (.tup [v1, .int l])) dl (.lst (zs ++ [.ref t2]))) := Ext.refl.updS (.inr rfl) hd3 (fun _ z => by cases z) fun _ z => by cases z
        have e24 := (Ext.of0 (S := two wl dl) e23).trans e34
        refine ⟨hd3, few (by omega), _, ?_, its, _, _, rfl, rfl, (ex2.trans e23).updN ndl, nw0, ndl, nwd, ys, zs ++ [.ref t2], L ++ [(c1, l)], ?_, upd_same, Paired.mapQ pi2 fun _ _ z => z.ext e24,
          PySem.Paired.snoc (Paired.mapQ pd2 fun _ _ z => z.ext e24) ⟨t2, v1, rfl, ?_, hc1.ext e24⟩, ?_, ?_⟩
        · rw [wits]; omega
        · rw [upd_ne nwd]; exact hw3
        · rw [upd_ne t2d, upd_same]
        · rw [hlv] at run1
          rw [← run1, List.append_assoc]
        · rw [List.length_append, List.length_singleton]; omega
      cases hc1 with
      | @every a kk ss ee ha =>
        refine ⟨.ref a, rfl, a, _, 0, .str "every", rfl, rfl, sqT_of ha, atI_nat (j := 0) rfl, rfl, _, rfl, ite2 (fun e => absurd (of_decide_eq_true e) (by decide)) (fun _ => ?_)⟩
        refine ⟨.ref a, rfl, a, _, 0, .str "every", rfl, rfl, sqT_of ha, atI_nat (j := 0) rfl, aP, _, rfl, .inr (hP _), rfl, rfl, _, rfl, ite2 (fun e => absurd e (by decide)) (fun _ => ?_)⟩
        refine ⟨.ref dl, rfl, .inl ⟨rfl, _, sqL_of hd2⟩, .ref a, rfl, .int l, rfl, le2, fun t2 nt2 => ?_⟩
        obtain ⟨g1, g2, g3⟩ := leafEnd t2 (some (.ref a)) (some (.int l)) rfl rfl nt2
        exact ⟨dl, _, _, rfl, rfl, g1, g2, g3⟩
      | @list a b ts ha hb =>
        refine ⟨.ref a, rfl, a, _, 0, .str "list", rfl, rfl, sqT_of ha, atI_nat (j := 0) rfl, rfl, _, rfl, ite2 (fun e => absurd (of_decide_eq_true e) (by decide)) (fun _ => ?_)⟩
        refine ⟨.ref a, rfl, a, _, 0, .str "list", rfl, rfl, sqT_of ha, atI_nat (j := 0) rfl, aP, _, rfl, .inr (hP _), rfl, rfl, _, rfl, ite2 (fun e => absurd e (by decide)) (fun _ => ?_)⟩
        refine ⟨.ref dl, rfl, .inl ⟨rfl, _, sqL_of hd2⟩, .ref a, rfl, .int l, rfl, le2, fun t2 nt2 => ?_⟩
        obtain ⟨g1, g2, g3⟩ := leafEnd t2 (some (.ref a)) (some (.int l)) rfl rfl nt2
        exact ⟨dl, _, _, rfl, rfl, g1, g2, g3⟩
      | @moved a v2 c2 n ha hc2 =>
          refine ⟨.ref a, rfl, a, _, 0, .str "moved", rfl, rfl, sqT_of ha, atI_nat (j := 0) rfl, rfl, _, rfl, ite2 (fun _ => ?_) (fun e => absurd (decide_eq_true rfl) e)⟩
          refine ⟨.ref wl, rfl, .inl ⟨rfl, _, sqL_of hw2⟩, .ref a, rfl, a, _, 1, v2, rfl, rfl, sqT_of ha, atI_nat (j := 1) rfl, .int l, rfl, .ref a, rfl, a, _, 2, .int n, rfl, rfl, sqT_of ha, atI_nat (j := 2) rfl, l, n, rfl, rfl, le2, fun t2 nt2 => ?_⟩
          have t2w : t2 ≠ wl := fun z => by rw [z, hw2] at nt2; cases nt2
          have e23 : Ex H2 (upd H2 t2 (.tup [v2, .int (l + n)])) := Ext.upd1 nt2
          have hw3 := e23.lst not0 hw2
          refine ⟨wl, _, _, rfl, rfl, hw3, by rw [List.length_reverse]; exact few (by omega), ?_⟩
          have e34 : Ext (two wl dl) (upd H2 t2 (.tup [v2, .int (l + n)])) (upd (upd H2 t2 (.tup [v2, .int (l + n)])) wl (.lst (ys.reverse ++ [.ref t2]))) := Ext.refl.updS (.inl rfl) hw3 (fun _ z => by cases z) fun _ z => by cases z
          have e24 := (Ext.of0 (S := two wl dl) e23).trans e34
          refine ⟨_, ?_, (c2, l + n) :: its, _, _, rfl, rfl, (ex2.trans e23).updN nw0, nw0, ndl, nwd, .ref t2 :: ys, zs, L, ?_, ?_, .cons ⟨⟨t2, v2, rfl, ?_, hc2.ext e24⟩, gd1.2.1⟩ (Paired.mapQ pi2 fun _ _ z => z.ext e24), Paired.mapQ pd2 fun _ _ z => z.ext e24, run1, ?_⟩
          · rw [wits]; show sz c2 + wtp its < sz c2 + 1 + wtp its; omega
          · rw [upd_same, List.reverse_cons]
          · rw [upd_ne (Ne.symm nwd)]; exact e23.lst not0 hd2
          · rw [upd_ne t2w, upd_same]
          · have e9 : wtp ((c2, l + n) :: its) = sz c2 + wtp its := rfl
            have e8 : sz (.moved c2 n) = sz c2 + 1 := rfl
            rw [e9]; omega
      | @pair a o v2 w2 c2 c3 ha hc2 hc3 =>
          refine ⟨.ref a, rfl, a, _, 0, .str (opS o), rfl, rfl, sqT_of ha, atI_nat (j := 0) rfl, rfl, _, rfl, ite2 (fun e => absurd (of_decide_eq_true e) (by cases o <;> decide)) (fun _ => ?_)⟩
          refine ⟨.ref a, rfl, a, _, 0, .str (opS o), rfl, rfl, sqT_of ha, atI_nat (j := 0) rfl, aP, _, rfl, .inr (hP _), rfl, rfl, _, rfl, ite2 (fun _ => ?_) (fun e => absurd (show _ = true by cases o <;> decide) e)⟩
          refine ⟨.ref wl, rfl, .inl ⟨rfl, _, sqL_of hw2⟩, .ref a, rfl, a, _, 1, v2, rfl, rfl, sqT_of ha, atI_nat (j := 1) rfl, .int l, rfl, le2, fun ta nta => ?_⟩
          have ea : Ex H2 (upd H2 ta (.tup [v2, .int l])) := Ext.upd1 nta
          refine ⟨.ref a, rfl, a, _, 2, w2, rfl, rfl, sqT_of (ea.tup _ _ ha), atI_nat (j := 2) rfl, .int l, rfl, le2, fun tb ntb => ⟨le2, fun lq nlq => ?_⟩⟩
          have eb' := ea.trans (Ext.upd1 (S := S0) (o := .tup [w2, .int l]) ntb)
          have el := eb'.trans (Ext.upd1 (S := S0) (o := .lst [.ref ta, .ref tb]) nlq)
          have ha5 := ((Ext.upd1 (S := S0) (o := .tup [w2, .int l]) ntb).trans (Ext.upd1 (o := .lst [.ref ta, .ref tb]) nlq)).tup ta [v2, .int l] upd_same
          have hb5 := (Ext.upd1 (S := S0) (o := .lst [.ref ta, .ref tb]) nlq).tup tb [w2, .int l] upd_same
          have hl5 : upd (upd (upd H2 ta (.tup [v2, .int l])) tb (.tup [w2, .int l])) lq (.lst [.ref ta, .ref tb]) lq = some (.lst [.ref ta, .ref tb]) := upd_same
          have hw5 := el.lst not0 hw2
          have hd5 := el.lst not0 hd2
          refine ⟨wl, lq, _, _, rfl, rfl, hw5, hl5, by rw [List.length_reverse]; exact few' (by show ys.length + 2 ≤ _; omega), ?_⟩
          generalize upd (upd (upd H2 ta (.tup [v2, .int l])) tb (.tup [w2, .int l])) lq (.lst [.ref ta, .ref tb]) = H5 at *
          have e56 : Ext (two wl dl) H5 (upd H5 wl (.lst (ys.reverse ++ [.ref ta, .ref tb]))) := Ext.refl.updS (.inl rfl) hw5 (fun _ z => by cases z) fun _ z => by cases z
          have e26 := (Ext.of0 (S := two wl dl) el).trans e56
          refine ⟨_, ?_, (c3, l) :: (c2, l) :: its, _, _, rfl, rfl, (ex2.trans el).updN nw0, nw0, ndl, nwd, .ref tb :: .ref ta :: ys, zs, L, ?_, ?_,
            .cons ⟨⟨tb, w2, rfl, e56.tup _ _ hb5, hc3.ext e26⟩, gd1.2⟩ (.cons ⟨⟨ta, v2, rfl, e56.tup _ _ ha5, hc2.ext e26⟩, gd1.1⟩ (Paired.mapQ pi2 fun _ _ z => z.ext e26)), Paired.mapQ pd2 fun _ _ z => z.ext e26, ?_, ?_⟩
          · rw [wits]; show sz c3 + (sz c2 + wtp its) < sz c2 + sz c3 + 2 + wtp its; omega
          · rw [upd_same]; simp
          · rw [upd_ne (Ne.symm nwd)]; exact hd5
          · rw [← run1]
            show L ++ (leaves c3 l ++ (leaves c2 l ++ rest its)) = L ++ ((leaves c3 l ++ leaves c2 l) ++ rest its)
            rw [List.append_assoc (leaves c3 l)]
          · have e9 : wtp ((c3, l) :: (c2, l) :: its) = sz c3 + (sz c2 + wtp its) := rfl
            have e8 : sz (.pair o c2 c3) = sz c2 + sz c3 + 2 := rfl
            rw [e9]; omega
end
end Days
set_option Elab.async false
set_option linter.all false
set_option maxRecDepth 100000
set_option maxHeartbeats 4000000
namespace Days
open PySem PySem.Spec PyProof.Rows L2 Y3 Cl
theorem b_max : bootBuiltins "max" = some (.builtin "max") := by decide +kernel
theorem b_all : bootBuiltins "all" = some (.builtin "all") := by decide +kernel
theorem b_sorted : bootBuiltins "sorted" = some (.builtin "sorted") := by decide +kernel
theorem b_repr : bootBuiltins "repr" = some (.builtin "repr") := by decide +kernel
theorem b_abs : bootBuiltins "abs" = some (.builtin "abs") := by decide +kernel
theorem b_int : bootBuiltins "int" = some (.type "int") := by decide +kernel
theorem b_set : bootBuiltins "set" = some (.type "set") := by decide +kernel
theorem b_list : bootBuiltins "list" = some (.type "list") := by decide +kernel
theorem b_tuple : bootBuiltins "tuple" = some (.type "tuple") := by decide +kernel
theorem b_len : bootBuiltins "len" = some (.builtin "len") := by decide +kernel
def spRep0 : Sp := fun vs H Q _ => ∃ (v : V) (c : Cal), vs = [v] ∧ CAt H v c ∧ CalOk c 0 ∧
  ∀ H' p, Ex H H' → H p = none → H' p = some (.tup [.int (nqOf c).1, .int ((nqOf c).2 : Nat)]) → Q (.ref p) H'
theorem max2 (i j : Int) : (if j > i then j else i) = max i j := by
  by_cases h : j > i
  · rw [if_pos h]; omega
  · rw [if_neg h]; omega
theorem max_is {n m : Int} {xs : List Int} (h1 : m ∈ n :: xs) (h2 : ∀ y, y ∈ n :: xs → y ≤ m) : m = xs.foldl max n := by
  have g := foldl_max_ge xs n
  have g2 := foldl_max_le xs n m (h2 n List.mem_cons_self) fun x hx => h2 x (List.mem_cons_of_mem _ hx)
  rcases List.mem_cons.mp h1 with e | e
  · have := g.1; omega
  · have := g.2 m e; omega
theorem paired_at {α β : Type} {F : α → β → Prop} : ∀ {xs : List α} {ys : List β}, Paired F xs ys → ∀ {i : Nat} {x : α}, xs[i]? = some x → ∃ y, ys[i]? = some y ∧ F x y
  | _, _, .nil, i, x, h => by simp at h
  | _, _, .cons r t, 0, x, h => by
    have e := Option.some.inj h
    subst e
    exact ⟨_, rfl, r⟩
  | _, _, .cons r t, i + 1, x, h => paired_at t h
theorem range_getD {α β : Type} (d : α) (g : α → β) (xs : List α) : (List.range xs.length).map (fun i => g (xs.getD i d)) = xs.map g := by
  refine List.ext_getElem? fun i => ?_
  rw [List.getElem?_map, List.getElem?_map]
  by_cases h : i < xs.length
  · rw [List.getElem?_range h, List.getElem?_eq_getElem h]
    simp [List.getD_eq_getElem?_getD, h]
  · rw [List.getElem?_eq_none (by simpa using h), List.getElem?_eq_none (by omega)]
    rfl
theorem getD_of {α : Type} {xs : List α} {i : Nat} {x d : α} (h : xs[i]? = some x) : xs.getD i d = x := by
  rw [List.getD_eq_getElem?_getD, h]
  rfl
theorem foldNQ_snoc (L : List (Cal × Int)) (p : Cal × Int) (a : Int × Nat) : foldNQ (L ++ [p]) a = stepNQ p (foldNQ L a) := by
  unfold foldNQ
  rw [List.foldl_append]
  rfl
section
variable {P : Program} {w : World} {K : PySem.W.Frag} {mg : Str → Option Value} {base : Heap}
theorem ok_rep0 {f fL : Addr} {fd fdL : FuncData} {k : Nat} (F : Fun K "_some_repeating" "_some_repeating" sRep0 f fd) (mm : mg "max" = none) (ml : mg "lcm" = some (.builtin "math.lcm"))
    (GL : FnOk P w K mg base CX0 k fL fdL ["c"] spLeaves) (gL : mg "_leaves_of" = some (.ref fL)) (kL : PySem.W.keepIn K (.ref fL) = true) (bL : Binds K fdL ["c"] []) :
    FnOk P w K mg base CX0 (k + 1) f fd ["c"] spRep0 := by
  refine F.ok scRep0 (fun vs H Q E h => ?_) (fun cdv A outer s H vs Q E hr h => ?_)
  · obtain ⟨v, c, rfl, _⟩ := h
    rfl
  · obtain ⟨v, c, rfl, hc, hok, q⟩ := h
    have nd := scRep0.nd
    refine ⟨_, pss_cons (ps_set (i := 1) nd rfl (.inl rfl) pe_int) (pss_cons (ps_set (i := 2) nd rfl (.inl rfl) pe_int)
      (pss_cons (ps_for PassesOwn.never rfl (pi_list (pe_call GL hr (by rfl) gL kL bL .nil pass0 (pa_cons (pv 0) pa_nil)))
          (pg_tup (by rfl) (pgs_cons (pg_name (i := 3) nd rfl (.inl rfl)) (pgs_cons (pg_name (i := 4) nd rfl (.inr rfl)) pgs_nil)))
        (pss_one (ps_if (pt_cmpR op_eq (pe_ix ix_tup (pv 3) pe_int (fun _ _ => rfl)) pe_str (nomark _))
          (pss_one (ps_set (i := 1) nd rfl (.inl rfl) (pe_callB (cr_max rfl) (by rfl) mm b_max (pa_cons (pe_op op_cat (pe_lst (pa_cons (pv 1) pa_nil))
            (pe_lc (own := [("time", 5)]) (g := gName 5) (tt := tYes) rfl nd (pi_tup (pe_ix ix_tup (pv 3) pe_int (fun _ _ => rfl))) (blkOk_by (N := nRep0) (sc := defScope sRep0) (by decide +kernel))
              (fun _ _ _ _ _ => pg_name (i := 5) nd rfl (.inl rfl)) (fun _ _ _ _ _ => pts_nil) (fun _ _ _ _ _ => pe_op op_add (pe_op op_add (pv 4) (pv 5)) pe_int))) pa_nil))))
          (pss_one (ps_if (pt_cmpR op_isN (pe_ix ix_tup (pv 3) pe_int (fun _ _ => rfl)) pe_non (nomark _))
            (pss_cons (ps_set (i := 1) nd rfl (.inl rfl) (pe_callB (call_max2 rfl) (by rfl) mm b_max (pa_cons (pv 1) (pa_cons (pe_op op_add (pv 4) (pe_ix ix_tup (pv 3) pe_int (fun _ _ => rfl))) pa_nil))))
            (pss_one (ps_set (i := 2) nd rfl (.inl rfl) (pe_callBfun Y2.cr_lcm (by rfl) ml (pa_cons (pv 2) (pa_cons (pe_ix ix_tup (pv 3) pe_int (fun _ _ => rfl)) pa_nil))))))
            (pss_one (ps_set (i := 1) nd rfl (.inl rfl) (pe_callB (call_max2 rfl) (by rfl) mm b_max (pa_cons (pv 1) (pa_cons (pe_op op_add (pe_op op_add (pv 4) (pe_ix ix_tup (pv 3) pe_int (fun _ _ => rfl))) pe_int) pa_nil))))))))))
      (pss_one (ps_ret (pe_tup (pa_cons (pv 1) (pa_cons (pv 2) pa_nil))))))), ?_⟩
    refine ⟨v, rfl, v, c, rfl, hc, hok, fun H1 p xs e01 np hp hpa => ⟨p, rfl, ⟨_, sqL_of hp⟩, ?_⟩⟩
    have lok := mild_leaves hok.1
    refine for_it (walk_list (K := K) (a := p) (xs := xs)) (fun i σ H' => ∃ y3 y4, σ = [some v, some (.int (foldNQ ((leaves c 0).take i) (0, 1)).1), some (.int ((foldNQ ((leaves c 0).take i) (0, 1)).2 : Nat)), y3, y4, none] ∧ Ex H1 H')
      ⟨none, none, rfl, Ext.refl⟩ (fun i σ H' _ h => by obtain ⟨_, _, _, e⟩ := h; exact sqL_of (e.lst not0 hp)) (fun i x σ H2 H3 hi h y => ?_) (fun σ H' h => ?_)
    · obtain ⟨y3, y4, rfl, e12⟩ := h
      obtain ⟨rfl, hx⟩ := y
      obtain ⟨⟨c1, l⟩, hL, t, v1, rfl, ht, hc1⟩ := paired_at hpa hx
      have ht : H1 t = some (.tup [v1, .int l]) := ht
      have hc1 : CAt H1 v1 c1 := hc1
      obtain ⟨lf, l0, lb⟩ := lok (c1, l) (List.mem_of_getElem? hL)
      have l0 : 0 ≤ l := l0
      have lb : l ≤ 300 := lb
      have lf : IsLeaf c1 := lf
      have nqi := (foldNQ_ok (B := 701) (L := (leaves c 0).take i) (a := (0, 1)) ⟨Int.le_refl _, by show (0 : Int) ≤ _; omega, Nat.le_refl _, Nat.one_dvd _⟩ fun p hp => by
        have := lok p (List.mem_of_mem_take hp)
        exact ⟨this.1, this.2.1, by have := this.2.2; omega⟩).1
      have hstep : (leaves c 0).take (i + 1) = (leaves c 0).take i ++ [(c1, l)] := by rw [List.take_add_one, hL]; rfl
      rw [hstep, foldNQ_snoc]
      generalize foldNQ ((leaves c 0).take i) (0, 1) = a at *
      obtain ⟨n, qq⟩ := a
      refine ⟨t, _, rfl, sqT_of (e12.tup _ _ ht), rfl, v1, _, rfl, .int l, _, rfl, rfl, ?_⟩
      have hc2 := hc1.ext e12
      cases hc2 with
      | pair _ _ _ => exact lf.elim
      | moved _ _ => exact lf.elim
      | @list a b ts ha hb =>
        refine ⟨.ref a, rfl, a, _, 0, .str "list", rfl, rfl, sqT_of ha, atI_nat (j := 0) rfl, rfl, _, rfl, ite2 (fun _ => ?_) (fun e => absurd (decide_eq_true rfl) e)⟩
        refine ⟨.int n, rfl, le1, fun l1 nl1 => ?_⟩
        have e23 : Ex H3 (upd H3 l1 (.lst [.int n])) := Ext.upd1 nl1
        refine ⟨.ref a, rfl, a, _, 1, .ref b, rfl, rfl, sqT_of (e23.tup _ _ ha), atI_nat (j := 1) (show [V.str "list", V.ref b][1]? = some (V.ref b) from rfl), b, rfl, ⟨_, sqT_of (e23.tup _ _ hb)⟩, fun D nD => ?_⟩
        have hlen : ts.length ≤ 500 := lf.2
        refine lcG (walk_tup (K := K) (a := b) (xs := ts.map V.int)) (item := fun i => .int (ts.getD i 0)) (fun _ => true) (fun i => .int (l + ts.getD i 0 + 1)) nD (by rw [List.length_map]; omega)
          (fun i H x H' _ y => ⟨y.1, ?_⟩) (fun H e => sqT_of ((e23.trans e).tup _ _ hb)) (fun i H2 Q _ _ h => tY h)
          (fun i H2 Q hi _ e h => ⟨.int l, rfl, .int (ts.getD i 0), rfl, l, ts.getD i 0, rfl, rfl, l + ts.getD i 0, 1, rfl, rfl, h H2 Ext.refl⟩) (fun H' e hD => ?_)
        · have hx := y.2
          rw [List.getElem?_map] at hx
          obtain ⟨t, ht, rfl⟩ := Option.map_eq_some_iff.mp hx
          rw [getD_of ht]
        · have hl1 : H' l1 = some (.lst [.int n]) := e.lst not0 upd_same
          rw [filt_true, List.length_map, range_getD 0 (fun t => V.int (l + t + 1)) ts] at hD
          refine ⟨l1, D, _, _, rfl, rfl, hl1, hD, few' (by rw [List.length_map, List.length_singleton]; omega), fun p2 np2 => ?_⟩
          refine ⟨p2, n :: ts.map (fun t => l + t + 1), rfl, sqL_of (by rw [upd_same]; simp [Function.comp_def]), Nat.succ_pos _, fun m hm1 hm2 => ?_⟩
          rw [max_is hm1 hm2]
          exact ⟨_, _, rfl, ((e12.trans e23).trans e).trans (Ext.upd1 np2)⟩
      | @every a kk ss ee ha =>
        refine ⟨.ref a, rfl, a, _, 0, .str "every", rfl, rfl, sqT_of ha, atI_nat (j := 0) rfl, rfl, _, rfl, ite2 (fun e => absurd (of_decide_eq_true e) (by decide)) (fun _ => ?_)⟩
        obtain ⟨⟨k1, k6'⟩, _, _⟩ := lf
        have k6 := Int.le_of_dvd (by decide : (0 : Int) < 60) k6'
        have n0 : 0 ≤ n := nqi.n0
        have qq1 : 1 ≤ qq := nqi.q1
        have q60 : qq ≤ 60 := Nat.le_of_dvd (by decide) nqi.q60
        cases ee with
        | none =>
          refine ⟨.ref a, rfl, a, _, 3, .non, rfl, rfl, sqT_of ha, atI_nat (j := 3) rfl, rfl, _, rfl, ite2 (fun _ => ?_) (fun e => absurd rfl e)⟩
          refine ⟨.int n, rfl, .int l, rfl, .ref a, rfl, a, _, 2, .int ss, rfl, rfl, sqT_of ha, atI_nat (j := 2) rfl, l, ss, rfl, rfl, n, l + ss, rfl, ?_⟩
          rw [max2]
          refine ⟨.int (qq : Nat), rfl, .ref a, rfl, a, _, 1, .int kk, rfl, rfl, sqT_of ha, atI_nat (j := 1) rfl, qq, kk.toNat, ?_, by omega, by omega, ?_⟩
          · rw [show ((kk.toNat : Nat) : Int) = kk by omega]
          · exact ⟨_, _, rfl, e12⟩
        | some ee =>
          refine ⟨.ref a, rfl, a, _, 3, .int ee, rfl, rfl, sqT_of ha, atI_nat (j := 3) rfl, rfl, _, rfl, ite2 (fun e => absurd (of_decide_eq_true e) (fun z => nomatch z)) (fun _ => ?_)⟩
          refine ⟨.int n, rfl, .int l, rfl, .ref a, rfl, a, _, 3, .int ee, rfl, rfl, sqT_of ha, atI_nat (j := 3) rfl, l, ee, rfl, rfl, l + ee, 1, rfl, rfl, n, l + ee + 1, rfl, ?_⟩
          rw [max2]
          exact ⟨_, _, rfl, e12⟩
    · obtain ⟨y3, y4, rfl, e12⟩ := h
      rw [paired_len hpa, List.take_of_length_le (Nat.le_refl _)]
      refine ⟨_, rfl, _, rfl, le2, fun p2 np2 => q _ _ ((e01.trans e12).trans (Ext.upd1 np2)) ((e01.trans e12).fre p2 np2) upd_same⟩
end
end Days
set_option Elab.async false
set_option linter.all false
set_option maxRecDepth 100000
set_option maxHeartbeats 4000000
/-! the least period of marks that go round -/
namespace Cl
def rot (bs : List Bool) (q : Nat) : List Bool := bs.drop q ++ bs.take q
theorem rot_get {bs : List Bool} {q i : Nat} (hq : q ≤ bs.length) (hi : i < bs.length) : (rot bs q)[i]? = if i + q < bs.length then bs[i + q]? else bs[i + q - bs.length]? := by
  unfold rot
  by_cases h : i + q < bs.length
  · rw [if_pos h, List.getElem?_append_left (by rw [List.length_drop]; omega), List.getElem?_drop, Nat.add_comm]
  · rw [if_neg h, List.getElem?_append_right (by rw [List.length_drop]; omega), List.length_drop, List.getElem?_take_of_lt (by omega)]
    congr 1
    omega
theorem rot_len (bs : List Bool) (q : Nat) : (rot bs q).length = bs.length := by
  unfold rot
  rw [List.length_append, List.length_drop, List.length_take]
  omega
theorem rot_self (bs : List Bool) : rot bs bs.length = bs := by
  unfold rot
  rw [List.drop_length, List.take_length, List.nil_append]
/-- the least number of places by which they go round into themselves -/
def IsLeast (bs : List Bool) (q : Nat) : Prop := (1 ≤ q ∧ q ≤ bs.length) ∧ rot bs q = bs ∧ ∀ r : Nat, 1 ≤ r → r < q → rot bs r ≠ bs
theorem rot_of_per {c : Cal} {n : Int} {N r : Nat} (h : Per c n (N : Int)) (k : Per c n (r : Int)) (hr : r ≤ N) : rot (mks c n (n + N)) r = mks c n (n + N) := by
  have hl : (mks c n (n + N)).length = N := by rw [mks_len]; omega
  refine List.ext_getElem? fun i => ?_
  by_cases hi : i < N
  · rw [rot_get (by omega) (by omega), hl]
    by_cases z : i + r < N
    · rw [if_pos z, mks_get (by omega), mks_get (by omega)]
      rw [show n + ((i + r : Nat) : Int) = n + (i : Nat) + (r : Int) by omega, k _ (by omega)]
    · rw [if_neg z, mks_get (by omega), mks_get (by omega)]
      have e := h (n + ((i + r - N : Nat) : Int)) (by omega)
      rw [← e, show n + ((i + r - N : Nat) : Int) + (N : Int) = n + (i : Nat) + (r : Int) by omega, k _ (by omega)]
  · rw [List.getElem?_eq_none (by rw [rot_len]; omega), List.getElem?_eq_none (by omega)]
theorem per_of_rot {c : Cal} {n : Int} {N r : Nat} (hN : 1 ≤ N) (h : Per c n (N : Int)) (hr : r ≤ N) (k : rot (mks c n (n + N)) r = mks c n (n + N)) : Per c n (r : Int) := by
  have hl : (mks c n (n + N)).length = N := by rw [mks_len]; omega
  have near : ∀ i : Nat, i < N → c.has (n + (i : Nat) + (r : Int)) = c.has (n + (i : Nat)) := fun i hi => by
    have e : (rot (mks c n (n + N)) r)[i]? = (mks c n (n + N))[i]? := by rw [k]
    rw [rot_get (by omega) (by omega), hl] at e
    by_cases z : i + r < N
    · rw [if_pos z, mks_get (by omega), mks_get (by omega)] at e
      rw [← Option.some.inj e, show n + ((i + r : Nat) : Int) = n + (i : Nat) + (r : Int) by omega]
    · rw [if_neg z, mks_get (by omega), mks_get (by omega)] at e
      have e2 := h (n + ((i + r - N : Nat) : Int)) (by omega)
      rw [← Option.some.inj e, ← e2, show n + ((i + r - N : Nat) : Int) + (N : Int) = n + (i : Nat) + (r : Int) by omega]
  intro t ht
  have h3 : 0 ≤ (t - n) % (N : Int) := Int.emod_nonneg _ (by omega)
  have h4 : (t - n) % (N : Int) < N := Int.emod_lt_of_pos _ (by omega)
  have e1 := has_far (by omega) h ht
  have hs : Per c n (N : Int) := h
  have e2 : c.has (t + (r : Int)) = c.has (n + (t - n) % (N : Int) + (r : Int)) := by
    have h1 := Int.emod_add_mul_ediv (t - n) (N : Int)
    have h2 : 0 ≤ (t - n) / (N : Int) := Int.ediv_nonneg (by omega) (by omega)
    have m := hs.mul (by omega) ((t - n) / (N : Int)).toNat (n + (t - n) % (N : Int) + (r : Int)) (by omega)
    rw [← m]
    congr 1
    rw [show (((t - n) / (N : Int)).toNat : Int) = (t - n) / (N : Int) by omega, Int.mul_comm]
    omega
  rw [e1, e2]
  have g := near ((t - n) % (N : Int)).toNat (by omega)
  rw [show ((((t - n) % (N : Int)).toNat : Nat) : Int) = (t - n) % (N : Int) by omega] at g
  exact g
theorem least_of {c : Cal} {n : Int} {N q : Nat} (hN : 1 ≤ N) (h : Per c n (N : Int)) (k : IsLeast (mks c n (n + N)) q) : (1 ≤ q ∧ q ≤ N) ∧ Per c n (q : Int) ∧ ∀ r : Int, 1 ≤ r → r < (q : Int) → ∀ m, ¬ Per c m r := by
  have hl : (mks c n (n + N)).length = N := by rw [mks_len]; omega
  obtain ⟨⟨k1, k2⟩, k3, k4⟩ := k
  rw [hl] at k2
  refine ⟨⟨k1, k2⟩, per_of_rot hN h k2 k3, fun r h1 h2 m hm => ?_⟩
  have hb := Per.back (by omega) h hm (by omega)
  refine k4 r.toNat (by omega) (by omega) (rot_of_per h ?_ (by omega))
  rw [show ((r.toNat : Nat) : Int) = r by omega]
  exact hb
/-- one step further back -/
theorem Per.prev {c : Cal} {n q : Int} (h : Per c n q) (e : c.has (n - 1) = c.has (n - 1 + q)) : Per c (n - 1) q := fun t ht => by
  by_cases z : t = n - 1
  · rw [z]; exact e.symm
  · exact h t (by omega)
end Cl
set_option Elab.async false
set_option linter.all false
set_option maxRecDepth 100000
set_option maxHeartbeats 4000000
namespace Days
open PySem PySem.Spec PyProof.Rows L2 Y3 Cl
/-! the package's defs over marks and over what repeats -/
/-- a def whose code object is known -/
structure FunC (K : PySem.W.Frag) (x qual : Str) (st : Stmt) (f : Addr) (fd : FuncData) (c : Addr) : Prop where
  ex : ∃ (oc : Value) (od : Option Addr) (kV doc pm : Value) (an : Option Addr) (ct : Value) (osl : Array (Option Value)),
    fd = PySem.W.fnOf x qual (defArgs st) (defBody st) (defScope st) .none kV doc pm an (.ref c) ct ∧ K.lookup f = some ⟨oc, od, .func fd, osl⟩ ∧ PySem.W.codeIn K (.ref c) qual = true
section
variable {P : Program} {w : World} {K : PySem.W.Frag} {mg : Str → Option Value} {base : Heap}
theorem FunC.ok {x qual : Str} {st : Stmt} {f c : Addr} {fd : FuncData} {N ps : List Str} {k : Nat} {sp : Sp} (F : FunC K x qual st f fd c) (S : FnScope N ps (defScope st)) (len : ∀ vs H Q E, sp vs H Q E → vs.length = ps.length)
    (hbody : ∀ (A : Around) (outer : List Env) (s : Shared) (H : Hp) (vs : List V) (Q : VK) (E : XK), Room k (A.deeper (envOfC qual (defScope st) s.heap.objs.size f (.ref c))) → sp vs H Q E →
      ∃ t, PSs (cxOf CX0 P w K mg base N qual (defScope st) f (.ref c) A outer s H E).nox (defBody st) t ∧ t { nx := fun _ H' => Q .non H', rt := Q } (start N vs) H) : FnOk P w K mg base CX0 (k + 1) f fd ps sp := by
  obtain ⟨oc, od, kV, doc, pm, an, ct, osl, rfl, lk, hcd⟩ := F.ex
  refine fn_of lk hcd S len fun A outer s H vs Q E hr hsp => ?_
  obtain ⟨t, h, q⟩ := hbody A outer s H vs Q E hr hsp
  exact ⟨t, h.nox, q⟩
end
def spHas : Sp := fun vs H Q _ => ∃ (v : V) (c : Cal) (t : Int), vs = [v, .int t] ∧ CAt H v c ∧ CalOk c 0 ∧ (0 ≤ t ∧ t ≤ 1000000) ∧ ∀ H', Ex H H' → Q (.bl (c.has t)) H'
/-- P0: the table of the code object in which the generator expression stands -/
def spTimes (P0 : Addr) : Sp := fun vs H Q _ => ∃ (v : V) (c : Cal) (lo hi : Int), vs = [v, .int lo, .int hi] ∧ CAt H v c ∧ CalOk c 0 ∧ FitsM lo hi ∧ GxR.TabG H P0 ∧
  ∀ H' p, Ex H H' → H p = none → H' p = some (.tup ((tms c lo hi).map V.int)) → Q (.ref p) H'
def spCount (P0 : Addr) : Sp := fun vs H Q _ => ∃ (v : V) (c : Cal) (hi : Int), vs = [v, .int hi] ∧ CAt H v c ∧ CalOk c 0 ∧ (0 ≤ hi ∧ hi ≤ 1000000) ∧ GxR.TabG H P0 ∧
  ∀ H', Ex H H' → Q (.int (tms c 0 hi).length) H'
def spNext (P0 : Addr) : Sp := fun vs H Q _ => ∃ (v : V) (c : Cal) (t : Int), vs = [v, .int t] ∧ CAt H v c ∧ CalOk c 0 ∧ (0 ≤ t ∧ t ≤ 1000000) ∧ GxR.TabG H P0 ∧
  ∀ H' x, Ex H H' → IsNx c t x → Q (eV x) H'
def spLeast : Sp := fun vs H Q _ => ∃ (a : Addr) (bs : List Bool), vs = [.ref a] ∧ H a = some (.lst (bs.map V.bl)) ∧ 1 ≤ bs.length ∧ bs.length ≤ 1000 ∧
  ∀ H' q, Ex H H' → IsLeast bs q → Q (.int (q : Nat)) H'
def spRepeats : Sp := fun vs H Q _ => ∃ (v : V) (c : Cal), vs = [v] ∧ CAt H v c ∧ CalOk c 0 ∧
  ∀ H' p n q, Ex H H' → H p = none → Rep c n q → n ≤ 701 → q ≤ 60 → H' p = some (.tup [.int n, .int q]) → Q (.ref p) H'
section
variable {P : Program} {w : World} {K : PySem.W.Frag} {mg : Str → Option Value} {base : Heap}
theorem ok_has {f fM : Addr} {fd fdM : FuncData} {k : Nat} (F : Fun K "has_time" "has_time" sHas f fd)
    (GM : FnOk P w K mg base CX0 k fM fdM ["c", "low", "high"] spMarks) (gM : mg "_marks" = some (.ref fM)) (kM : PySem.W.keepIn K (.ref fM) = true) (bM : Binds K fdM ["c", "low", "high"] []) :
    FnOk P w K mg base CX0 (k + 1) f fd ["c", "t"] spHas := by
  refine F.ok scHas (fun vs H Q E h => ?_) (fun cdv A outer s H vs Q E hr h => ?_)
  · obtain ⟨v, c, t, rfl, _⟩ := h
    rfl
  · obtain ⟨v, c, t, rfl, hc, hok, ⟨t0, t1⟩, q⟩ := h
    refine ⟨_, pss_one (ps_ret (pe_ix ix_list (pe_call GM hr (by rfl) gM kM bM .nil pass0 (pa_cons (pv 0) (pa_cons (pv 1) (pa_cons (pe_op op_add (pv 1) pe_int) pa_nil)))) pe_int (fun _ _ => rfl))), ?_⟩
    refine ⟨v, rfl, .int t, rfl, .int t, rfl, t, 1, rfl, rfl, v, c, t, t + 1, rfl, hc, hok, ⟨by omega, by omega, by omega, by omega, by omega⟩, fun H1 p e np hp => ?_⟩
    refine ⟨p, _, 0, .bl (c.has t), rfl, rfl, sqL_of hp, atI_nat (j := 0) ?_, q H1 e⟩
    rw [List.getElem?_map, mks_get (by omega)]
    show some (V.bl (c.has (t + 0))) = _
    rw [Int.add_zero]
theorem ok_times {f fM c0 P0 : Addr} {fd fdM : FuncData} {k : Nat} (F : FunC K "times_in" "times_in" sTimes f fd c0) (TB : GxR.TabB base mg c0 P0) (me : mg "enumerate" = none) (mt : mg "tuple" = none)
    (GM : FnOk P w K mg base CX0 k fM fdM ["c", "low", "high"] spMarks) (gM : mg "_marks" = some (.ref fM)) (kM : PySem.W.keepIn K (.ref fM) = true) (bM : Binds K fdM ["c", "low", "high"] []) :
    FnOk P w K mg base CX0 (k + 1) f fd ["c", "low", "high"] (spTimes P0) := by
  refine F.ok scTimes (fun vs H Q E h => ?_) (fun A outer s H vs Q E hr h => ?_)
  · obtain ⟨v, c, lo, hi, rfl, _⟩ := h
    rfl
  · obtain ⟨v, c, lo, hi, rfl, hc, hok, fit, tab, q⟩ := h
    refine ⟨_, pss_one (ps_ret (Y1.pe_tupE (P := P0) hr TB rfl ⟨rfl, rfl, by decide +kernel, by decide +kernel, fun y hy hf => cell_has ((show ∀ y ∈ _, y.2 = NameKind.free → (defScope sTimes).names.lookup y.1 = some .cell by decide +kernel) y hy hf)⟩ rfl rfl (by decide +kernel) (by rfl) me
      (pa_cons (pe_call GM hr (by rfl) gM kM bM .nil pass0 (pa_cons (pv 0) (pa_cons (pv 1) (pa_cons (pv 2) pa_nil)))) pa_nil) (by rfl) mt (fun _ => rfl))), ?_⟩
    refine ⟨v, rfl, .int lo, rfl, .int hi, rfl, v, c, lo, hi, rfl, hc, hok, fit, fun H1 p e np hp => ?_⟩
    have hl : (mks c lo hi).length ≤ 1000000 := by
      rw [mks_len]
      have := fit.2.2.2.2
      omega
    refine ⟨p, _, _, _, rfl, sqL_of hp, e.tab _ tab, Y1.gelt_marks (i := 1) (k := lo) rfl rfl rfl rfl (by decide +kernel) rfl rfl (.inl rfl) (by decide +kernel) (by decide +kernel) (by decide +kernel) (by decide +kernel), by rw [List.length_map]; exact few' hl, fun H2 r e2 nr => ?_⟩
    refine q _ r ((e.trans (Ext.ofTab e2 (e.tab _ tab))).trans (Ext.upd1 nr)) ((e.trans (Ext.ofTab e2 (e.tab _ tab))).fre r nr) ?_
    rw [upd_same]
    congr 2
    unfold Y1.gout
    rw [List.length_map, ← gout_tms, List.map_map]
    rfl
end
end Days
set_option Elab.async false
set_option linter.all false
set_option maxRecDepth 100000
set_option maxHeartbeats 4000000
namespace Days
open PySem PySem.Spec PyProof.Rows L2 Y3 Cl
theorem nq_b {c : Cal} (h : CalOk c 0) : (0 ≤ (nqOf c).1 ∧ (nqOf c).1 ≤ 701) ∧ (1 ≤ (nqOf c).2 ∧ (nqOf c).2 ≤ 60) ∧ Per c (nqOf c).1 ((nqOf c).2 : Int) := by
  obtain ⟨⟨h1, h2, h3, h4⟩, h5⟩ := nqOf_ok h.1
  exact ⟨⟨h1, by omega⟩, ⟨h3, Nat.le_of_dvd (by decide) h4⟩, h5⟩
section
variable {P : Program} {w : World} {K : PySem.W.Frag} {mg : Str → Option Value} {base : Heap}
theorem cut_from (bs : List V) {n : Nat} (h : n ≤ bs.length) : cutV bs (some (n : Int)) none = bs.drop n := by
  unfold cutV
  rw [HT.sIx_nat, HT.sIx_none, Nat.min_eq_left h, List.take_of_length_le (by rw [List.length_drop]; omega)]
theorem cut_to (bs : List V) {n : Nat} (h : n ≤ bs.length) : cutV bs none (some (n : Int)) = bs.take n := by
  unfold cutV
  rw [HT.sIx_nat, HT.sIx_none, Nat.min_eq_left h, List.drop_zero, Nat.sub_zero]
theorem ok_least {f : Addr} {fd : FuncData} {k : Nat} (F : Fun K "_least_period" "_least_period" sLeast f fd) (mr : mg "range" = none) (ml : mg "len" = none) : FnOk P w K mg base CX0 (k + 1) f fd ["marks"] spLeast := by
  refine F.ok scLeast (fun vs H Q E h => ?_) (fun cdv A outer s H vs Q E hr h => ?_)
  · obtain ⟨a, bs, rfl, _⟩ := h
    rfl
  · obtain ⟨a, bs, rfl, ha, l1, l2, q⟩ := h
    have nd := scLeast.nd
    refine ⟨_, pss_cons (ps_for PassesOwn.never rfl (pi_range2 (by rfl) mr (pa_cons pe_int (pa_cons (pe_callB call_len_seq (by rfl) ml PySem.boot_len (pa_cons (pv 0) pa_nil)) pa_nil))) (pg_name (i := 1) nd rfl (.inl rfl))
        (pss_one (ps_if (pt_cmpR (op_eqD hr.units) (pe_op op_cat (pe_slice sl_list (pv 0) (po_some (pv 1)) po_none) (pe_slice sl_list (pv 0) po_none (po_some (pv 1)))) (pv 0) (nomark _))
          (pss_one (ps_ret (pv 1))) pss_nil)))
      (pss_one (ps_ret (pe_callB call_len_seq (by rfl) ml PySem.boot_len (pa_cons (pv 0) pa_nil)))), ?_⟩
    refine ⟨.ref a, rfl, a, _, rfl, .inl (sqL_of ha), 1, ((bs.map V.bl).length : Nat), rfl, ⟨by omega, by omega, by omega, by rw [List.length_map]; omega⟩, ?_⟩
    rw [List.length_map]
    refine for_range (lo := 1) (n := ((bs.length : Nat) - 1 : Int).toNat) (fun i σ H' => ∃ y, σ = [some (.ref a), y] ∧ Ex H H' ∧ ∀ r : Nat, 1 ≤ r → r < 1 + i → rot bs r ≠ bs)
      ⟨none, rfl, Ext.refl, fun r h1 h2 => by omega⟩ (fun i σ H1 hi h => ?_) (fun σ H1 h => ?_)
    · obtain ⟨y, rfl, e1, hno⟩ := h
      have ha1 := e1.lst not0 ha
      have hlen : (bs.map V.bl).length = bs.length := List.length_map _
      obtain ⟨j, hj⟩ : ∃ j : Nat, j = 1 + i := ⟨_, rfl⟩
      rw [show (1 : Int) + (i : Nat) = (j : Nat) by omega]
      refine ⟨.ref a, rfl, .int (j : Nat), rfl, (j : Nat), rfl, a, _, rfl, sqL_of ha1, fun p1 np1 => ?_⟩
      rw [cut_from _ (by omega)]
      have e2 : Ex H1 (upd H1 p1 (.lst ((bs.map V.bl).drop j))) := Ext.upd1 np1
      have hp1 : upd H1 p1 (.lst ((bs.map V.bl).drop j)) p1 = some (.lst ((bs.map V.bl).drop j)) := upd_same
      generalize upd H1 p1 (.lst ((bs.map V.bl).drop j)) = H2 at *
      refine ⟨.ref a, rfl, .int (j : Nat), rfl, (j : Nat), rfl, a, _, rfl, sqL_of (e2.lst not0 ha1), fun p2 np2 => ?_⟩
      rw [cut_to _ (by omega)]
      have e3 : Ex H2 (upd H2 p2 (.lst ((bs.map V.bl).take j))) := Ext.upd1 np2
      have hp2 : upd H2 p2 (.lst ((bs.map V.bl).take j)) p2 = some (.lst ((bs.map V.bl).take j)) := upd_same
      generalize upd H2 p2 (.lst ((bs.map V.bl).take j)) = H3 at *
      refine ⟨p1, p2, _, _, rfl, rfl, e3.lst not0 hp1, hp2, few' (by rw [List.length_drop, List.length_take]; omega), fun p3 np3 => ?_⟩
      rw [← List.map_drop, ← List.map_take, ← List.map_append]
      have e4 : Ex H3 (upd H3 p3 (.lst ((bs.drop j ++ bs.take j).map V.bl))) := Ext.upd1 np3
      have hp3 : upd H3 p3 (.lst ((bs.drop j ++ bs.take j).map V.bl)) p3 = some (.lst ((bs.drop j ++ bs.take j).map V.bl)) := upd_same
      have e14 := (e2.trans e3).trans e4
      generalize upd H3 p3 (.lst ((bs.drop j ++ bs.take j).map V.bl)) = H4 at *
      refine ⟨.ref a, rfl, _, _, dpB (sqL_of hp3), dpB (sqL_of (e14.lst not0 ha1)), shB _, shB _, _, rfl, ?_⟩
      rw [show PyData.eqv (.list ((bs.drop j ++ bs.take j).map PyData.bool)) (.list (bs.map PyData.bool)) = decide (rot bs j = bs) from eqvB _ _]
      refine ite2 (fun z => ?_) (fun z => ?_)
      · exact ⟨.int (j : Nat), rfl, q H4 j (e1.trans e14) ⟨⟨by omega, by omega⟩, of_decide_eq_true z, fun r h1 h2 => hno r h1 (by omega)⟩⟩
      · refine ⟨_, rfl, e1.trans e14, fun r h1 h2 => ?_⟩
        by_cases g : r = j
        · rw [g]; exact fun z2 => z (decide_eq_true z2)
        · exact hno r h1 (by omega)
    · obtain ⟨y, rfl, e1, hno⟩ := h
      refine ⟨.ref a, rfl, a, _, rfl, .inl (sqL_of (e1.lst not0 ha)), ?_⟩
      rw [List.length_map]
      exact q H1 bs.length e1 ⟨⟨l1, Nat.le_refl _⟩, rot_self bs, fun r h1 h2 => hno r h1 (by omega)⟩
end
end Days
set_option Elab.async false
set_option linter.all false
set_option maxRecDepth 100000
set_option maxHeartbeats 4000000
namespace Days
open PySem PySem.Spec PyProof.Rows L2 Y3 Cl
theorem mks_drop (c : Cal) {n : Int} {N : Nat} (h : 0 ≤ n) : (mks c 0 (n + N)).drop n.toNat = mks c n (n + N) := by
  refine List.ext_getElem? fun i => ?_
  rw [List.getElem?_drop]
  by_cases hi : i < N
  · rw [mks_get (by omega), mks_get (by omega)]
    congr 2
    omega
  · rw [List.getElem?_eq_none (by rw [mks_len]; omega), List.getElem?_eq_none (by rw [mks_len]; omega)]
theorem mks_int (c : Cal) {hi t : Int} (h0 : 0 ≤ t) (h : t < hi) : atI ((mks c 0 hi).map V.bl) t = some (.bl (c.has t)) := by
  have e := atI_nat (xs := (mks c 0 hi).map V.bl) (j := t.toNat) (v := .bl (c.has t)) (by
    rw [List.getElem?_map, mks_get (by omega), show (0 : Int) + (t.toNat : Nat) = t by omega]
    rfl)
  rw [show ((t.toNat : Nat) : Int) = t by omega] at e
  exact e
def spPlain (P0 P1 : Addr) : Sp := fun vs H Q _ => ∃ (v : V) (c : Cal), vs = [v] ∧ CAt H v c ∧ CalOk c 0 ∧ GxR.TabG H P0 ∧ GxR.TabG H P1 ∧
  ∀ H' p a1 a2 n q, Ex H H' → H p = none → Rep c n q → n ≤ 701 → q ≤ 60 → H' p = some (.tup [.ref a1, .int n, .int q, .ref a2]) → H' a1 = some (.tup ((tms c 0 n).map V.int)) → H' a2 = some (.tup (((tms c n (n + q)).map fun t => t - n).map V.int)) → Q (.ref p) H'
section
variable {P : Program} {w : World} {K : PySem.W.Frag} {mg : Str → Option Value} {base : Heap}
theorem ok_repeats {f fM fR fL : Addr} {fd fdM fdR fdL : FuncData} {k : Nat} (F : Fun K "repeats" "repeats" sRepeats f fd)
    (GR : FnOk P w K mg base CX0 k fR fdR ["c"] spRep0) (gR : mg "_some_repeating" = some (.ref fR)) (kR : PySem.W.keepIn K (.ref fR) = true) (bR : Binds K fdR ["c"] [])
    (GM : FnOk P w K mg base CX0 k fM fdM ["c", "low", "high"] spMarks) (gM : mg "_marks" = some (.ref fM)) (kM : PySem.W.keepIn K (.ref fM) = true) (bM : Binds K fdM ["c", "low", "high"] [])
    (GL : FnOk P w K mg base CX0 k fL fdL ["marks"] spLeast) (gL : mg "_least_period" = some (.ref fL)) (kL : PySem.W.keepIn K (.ref fL) = true) (bL : Binds K fdL ["marks"] []) :
    FnOk P w K mg base CX0 (k + 1) f fd ["c"] spRepeats := by
  refine F.ok scRepeats (fun vs H Q E h => ?_) (fun cdv A outer s H vs Q E hr h => ?_)
  · obtain ⟨v, c, rfl, _⟩ := h
    rfl
  · obtain ⟨v, c, rfl, hc, hok, fin⟩ := h
    have nd := scRepeats.nd
    refine ⟨_, pss_cons (ps_asg (pe_call GR hr (by rfl) gR kR bR .nil pass0 (pa_cons (pv 0) pa_nil)) (pg_pair (i := 1) (j := 2) nd rfl rfl rfl rfl rfl))
      (pss_cons (ps_set (i := 3) nd rfl (.inl rfl) (pe_call GM hr (by rfl) gM kM bM .nil pass0 (pa_cons (pv 0) (pa_cons pe_int (pa_cons (pe_op op_add (pv 1) (pv 2)) pa_nil)))))
      (pss_cons (ps_set (i := 2) nd rfl (.inl rfl) (pe_call GL hr (by rfl) gL kL bL .nil pass0 (pa_cons (pe_slice sl_list (pv 3) (po_some (pv 1)) po_none) pa_nil)))
      (pss_cons (ps_while PassesOwn.never (PW.pt (pw_and (pt_cmpR op_gt (pv 1) pe_int (nomark _)) (pw_and1 (pt_cmpR op_eq (pe_ix ix_list (pv 3) (pe_op op_sub (pv 1) pe_int) (fun _ _ => rfl)) (pe_ix ix_list (pv 3) (pe_op op_add (pe_op op_sub (pv 1) pe_int) (pv 2)) (fun _ _ => rfl)) (nomark _)))))
        (pss_one (ps_aug (i := 1) nd rfl (.inl rfl) pe_int ip_sub)))
      (pss_one (ps_ret (pe_tup (pa_cons (pv 1) (pa_cons (pv 2) pa_nil)))))))), ?_⟩
    obtain ⟨⟨n0, n1⟩, ⟨q0, q1⟩, hper⟩ := nq_b hok
    refine ⟨v, rfl, v, c, rfl, hc, hok, fun H1 p e1 np hp => ?_⟩
    refine ⟨p, _, rfl, sqT_of hp, rfl, .int (nqOf c).1, _, rfl, .int ((nqOf c).2 : Nat), _, rfl, rfl, ?_⟩
    generalize (nqOf c).1 = n at *
    generalize (nqOf c).2 = N at *
    refine ⟨v, rfl, .int n, rfl, .int (N : Nat), rfl, n, N, rfl, rfl, v, c, 0, n + N, rfl, hc.ext e1, hok, ⟨by omega, by omega, by omega, by omega, by omega⟩, fun H2 m e2 nm hm => ?_⟩
    have hl : (mks c 0 (n + N)).length = (n + N).toNat := by rw [mks_len]; omega
    refine ⟨.ref m, rfl, .int n, rfl, n, rfl, m, _, rfl, sqL_of hm, fun p3 np3 => ?_⟩
    rw [show (some n : Option Int) = some ((n.toNat : Nat) : Int) by rw [show ((n.toNat : Nat) : Int) = n by omega], cut_from _ (by rw [List.length_map]; omega), ← List.map_drop, mks_drop c n0]
    have e3 : Ex H2 (upd H2 p3 (.lst ((mks c n (n + N)).map V.bl))) := Ext.upd1 np3
    have hp3 : upd H2 p3 (.lst ((mks c n (n + N)).map V.bl)) p3 = some (.lst ((mks c n (n + N)).map V.bl)) := upd_same
    generalize upd H2 p3 (.lst ((mks c n (n + N)).map V.bl)) = H3 at *
    refine ⟨p3, _, rfl, hp3, by rw [mks_len]; omega, by rw [mks_len]; omega, fun H4 qq e4 hq => ?_⟩
    obtain ⟨⟨g1, g2⟩, g3, g4⟩ := least_of q0 hper hq
    have hm4 := (e3.trans e4).lst not0 hm
    have e04 := ((e1.trans e2).trans e3).trans e4
    refine ⟨fun z σ H' => ∃ a : Int, σ = [some v, some (.int a), some (.int (qq : Nat)), some (.ref m)] ∧ H' = H4 ∧ (z : Int) = a ∧ 0 ≤ a ∧ a ≤ n ∧ Per c a (qq : Int), ⟨n.toNat, n, rfl, rfl, by omega, n0, Int.le_refl _, g3⟩, fun z σ H' hW => ?_⟩
    obtain ⟨a, rfl, rfl, hz, a0, a1, ap⟩ := hW
    have done : 0 < a → c.has (a - 1 + (qq : Int)) ≠ c.has (a - 1) → Q (.ref 0) H' ∨ True := fun _ _ => .inr trivial
    have fin2 : (0 < a → c.has (a - 1 + (qq : Int)) ≠ c.has (a - 1)) → tRet (tTup (tCons (tVar 1) (tCons (tVar 2) tNil))) { nx := fun x H' => Q V.non H', rt := Q } [some v, some (.int a), some (.int (qq : Nat)), some (.ref m)] H' := fun hln =>
      ⟨.int a, rfl, .int (qq : Nat), rfl, le2, fun t nt => fin _ t a qq (e04.trans (Ext.upd1 nt)) (e04.fre t nt) ⟨by omega, a0, ap, g4, hln⟩ (by omega) (by omega) upd_same⟩
    refine ⟨.int a, rfl, a, 0, rfl, rfl, _, rfl, ite2 (fun c1 => ?_) (fun c1 => ?_)⟩
    · have c1' : 0 < a := of_decide_eq_true c1
      refine ⟨.ref m, rfl, .int a, rfl, a, 1, rfl, rfl, m, _, _, _, rfl, rfl, sqL_of hm4, mks_int c (by omega) (by omega), .ref m, rfl, .int a, rfl, a, 1, rfl, rfl, .int (qq : Nat), rfl, a - 1, qq, rfl, rfl, m, _, _, _, rfl, rfl, sqL_of hm4, mks_int c (by omega) (by omega), rfl, _, rfl, ite2 (fun c2 => ?_) (fun c2 => ?_)⟩
      · have c2' : c.has (a - 1) = c.has (a - 1 + (qq : Int)) := V.bl.inj (of_decide_eq_true c2)
        refine ⟨fun σ' H'' => ∃ m', m' < z ∧ ∃ a : Int, σ' = [some v, some (.int a), some (.int (qq : Nat)), some (.ref m)] ∧ H'' = H' ∧ (m' : Int) = a ∧ 0 ≤ a ∧ a ≤ n ∧ Per c a (qq : Int), fun _ _ z => z, ?_⟩
        exact ⟨.int a, rfl, a, 1, rfl, rfl, z - 1, by omega, a - 1, rfl, rfl, by omega, by omega, by omega, ap.prev c2'⟩
      · exact fin2 fun _ e => c2 (decide_eq_true (by rw [e]))
    · exact fin2 fun h => absurd (decide_eq_true h) c1
theorem ok_plain {f fT fR c1 P0 P1 : Addr} {fd fdT fdR : FuncData} {k : Nat} (F : FunC K "plain_calendar" "plain_calendar" sPlain f fd c1) (TB : GxR.TabB base mg c1 P1) (mt : mg "tuple" = none)
    (GR : FnOk P w K mg base CX0 k fR fdR ["c"] spRepeats) (gR : mg "repeats" = some (.ref fR)) (kR : PySem.W.keepIn K (.ref fR) = true) (bR : Binds K fdR ["c"] [])
    (GT : FnOk P w K mg base CX0 k fT fdT ["c", "low", "high"] (spTimes P0)) (gT : mg "times_in" = some (.ref fT)) (kT : PySem.W.keepIn K (.ref fT) = true) (bT : Binds K fdT ["c", "low", "high"] []) :
    FnOk P w K mg base CX0 (k + 1) f fd ["c"] (spPlain P0 P1) := by
  refine F.ok scPlain (fun vs H Q E h => ?_) (fun A outer s H vs Q E hr h => ?_)
  · obtain ⟨v, c, rfl, _⟩ := h
    rfl
  · obtain ⟨v, c, rfl, hc, hok, tab0, tab1, fin⟩ := h
    have nd := scPlain.nd
    refine ⟨_, pss_cons (ps_asg (pe_call GR hr (by rfl) gR kR bR .nil pass0 (pa_cons (pv 0) pa_nil)) (pg_tup (by rfl) (pgs_cons (pg_name (i := 2) nd rfl (.inr rfl)) (pgs_cons (pg_name (i := 1) nd rfl (.inl rfl)) pgs_nil))))
      (pss_one (ps_ret (pe_tup (pa_cons (pe_call GT hr (by rfl) gT kT bT .nil pass0 (pa_cons (pv 0) (pa_cons pe_int (pa_cons (pv 2) pa_nil)))) (pa_cons (pv 2) (pa_cons (pv 1) (pa_cons
        (Y1.pe_tupG (P := P1) hr TB rfl ⟨rfl, rfl, by decide +kernel, by decide +kernel, fun y hy hf => cell_has ((show ∀ y ∈ _, y.2 = NameKind.free → (defScope sPlain).names.lookup y.1 = some .cell by decide +kernel) y hy hf)⟩ rfl
          (pe_call GT hr (by rfl) gT kT bT .nil pass0 (pa_cons (pv 0) (pa_cons (pv 2) (pa_cons (pe_op op_add (pv 2) (pv 1)) pa_nil)))) (by rfl) mt (fun _ => rfl)) pa_nil))))))), ?_⟩
    refine ⟨v, rfl, v, c, rfl, hc, hok, fun H1 p n q e1 np rep nb qb hp => ?_⟩
    have n0 := rep.n0
    have q1 := rep.q1
    refine ⟨p, _, rfl, sqT_of hp, rfl, .int n, _, rfl, .int q, _, rfl, rfl, ?_⟩
    refine ⟨v, rfl, .int n, rfl, v, c, 0, n, rfl, hc.ext e1, hok, ⟨by omega, by omega, by omega, by omega, by omega⟩, e1.tab _ tab0, fun H2 a1 e2 na1 ha1 => ?_⟩
    refine ⟨.int n, rfl, .int q, rfl, v, rfl, .int n, rfl, .int n, rfl, .int q, rfl, n, q, rfl, rfl, v, c, n, n + q, rfl, (hc.ext e1).ext e2, hok, ⟨by omega, by omega, by omega, by omega, by omega⟩, e2.tab _ (e1.tab _ tab0), fun H3 t e3 nt ht => ?_⟩
    have e13 := (e1.trans e2).trans e3
    refine ⟨t, _, _, _, rfl, .inr (sqT_of ht), e13.tab _ tab1, Y1.gelt_sub (i := 2) (k := n) (ns := tms c n (n + q)) rfl rfl rfl (by decide +kernel) rfl rfl (.inl rfl) (by decide +kernel) (by decide +kernel) (by decide +kernel), ?_, fun H4 r e4 nr => ?_⟩
    · rw [List.length_map]
      have := tms_len_le c n (n + q)
      exact few' (by omega)
    have e34 := (Ext.ofTab e4 (e13.tab _ tab1) : Ex H3 H4).trans (Ext.upd1 (o := .tup (Y1.gout ((tms c n (n + q)).map V.int).length (fun _ => true) fun j => .int ((tms c n (n + q)).getD j 0 - n))) nr)
    have hr5 : upd H4 r (.tup (Y1.gout ((tms c n (n + q)).map V.int).length (fun _ => true) fun j => .int ((tms c n (n + q)).getD j 0 - n))) r = some (.tup (((tms c n (n + q)).map fun t => t - n).map V.int)) := by
      rw [upd_same]
      unfold Y1.gout
      rw [filt_true, List.length_map, range_getD 0 (fun t => V.int (t - n)), List.map_map]
      rfl
    generalize upd H4 r (.tup (Y1.gout ((tms c n (n + q)).map V.int).length (fun _ => true) fun j => .int ((tms c n (n + q)).getD j 0 - n))) = H5 at *
    refine ⟨le4, fun p6 np6 => ?_⟩
    have e56 : Ex H5 (upd H5 p6 (.tup [.ref a1, .int n, .int q, .ref r])) := Ext.upd1 np6
    exact fin _ p6 a1 r n q ((e13.trans e34).trans e56) ((e13.trans e34).fre p6 np6) rep nb qb upd_same (e56.tup _ _ (e34.tup _ _ (e3.tup _ _ ha1))) (e56.tup _ _ hr5)
end
end Days
set_option Elab.async false
set_option linter.all false
set_option maxRecDepth 100000
set_option maxHeartbeats 4000000
namespace Days
open PySem PySem.Spec PyProof.Rows L2 Y3 Cl
/-! the law's own source of numbers -/
def srcK (cl : Addr) (l m t : Int) : List (Key × V) := [(.inr "cells", .ref cl), (.inr "left", .int l), (.inr "mixed", .int m), (.inr "turn", .int t)]
structure Src (H : Hp) (d cl : Addr) (l m t : Int) (cs : List Int) : Prop where
  hd : H d = some (.dK (srcK cl l m t))
  hc : H cl = some (.lst (cs.map V.int))
  l0 : 0 ≤ l
  m0 : 0 ≤ m
  t0 : 0 ≤ t
  c0 : ∀ x ∈ cs, 0 ≤ x
  len : cs.length ≤ 63
theorem Src.ne {H : Hp} {d cl : Addr} {l m t : Int} {cs : List Int} (h : Src H d cl l m t cs) : d ≠ cl := fun z => by
  have a := h.hd
  rw [z, h.hc] at a
  cases a
theorem put_left (cl : Addr) (l m t l' : Int) : putK (srcK cl l m t) (.inr "left") (.int l') = srcK cl l' m t := by rfl
theorem put_turn (cl : Addr) (l m t t' : Int) : putK (srcK cl l m t) (.inr "turn") (.int t') = srcK cl l m t' := by rfl
theorem get_cells (cl : Addr) (l m t : Int) : valV (srcK cl l m t) (.inr "cells") = some (.ref cl) := by rfl
theorem get_left (cl : Addr) (l m t : Int) : valV (srcK cl l m t) (.inr "left") = some (.int l) := by rfl
theorem get_mixed (cl : Addr) (l m t : Int) : valV (srcK cl l m t) (.inr "mixed") = some (.int m) := by rfl
theorem get_turn (cl : Addr) (l m t : Int) : valV (srcK cl l m t) (.inr "turn") = some (.int t) := by rfl
theorem merge_src (cl : Addr) (l m t : Int) : mergeK [] (srcK cl l m t) = srcK cl l m t := by rfl
theorem Src.gcells {H : Hp} {d cl : Addr} {l m t : Int} {cs : List Int} (h : Src H d cl l m t cs) : DGet H d (.str "cells") (some (.ref cl)) := by
  have e := DGet.k (k := .inr "cells") h.hd
  rw [get_cells] at e
  exact e
theorem Src.gleft {H : Hp} {d cl : Addr} {l m t : Int} {cs : List Int} (h : Src H d cl l m t cs) : DGet H d (.str "left") (some (.int l)) := by
  have e := DGet.k (k := .inr "left") h.hd
  rw [get_left] at e
  exact e
theorem Src.gmixed {H : Hp} {d cl : Addr} {l m t : Int} {cs : List Int} (h : Src H d cl l m t cs) : DGet H d (.str "mixed") (some (.int m)) := by
  have e := DGet.k (k := .inr "mixed") h.hd
  rw [get_mixed] at e
  exact e
theorem Src.gturn {H : Hp} {d cl : Addr} {l m t : Int} {cs : List Int} (h : Src H d cl l m t cs) : DGet H d (.str "turn") (some (.int t)) := by
  have e := DGet.k (k := .inr "turn") h.hd
  rw [get_turn] at e
  exact e
theorem Src.pleft {H : Hp} {d cl : Addr} {l m t l' : Int} {cs : List Int} (h : Src H d cl l m t cs) (h0 : 0 ≤ l') :
    ∃ H', DPut H d (.str "left") (.int l') H' ∧ Src H' d cl l' m t cs ∧ Ext (two d cl) H H' := by
  refine ⟨_, DPut.k (k := .inr "left") h.hd (by show 4 < sizeLine; decide), ⟨?_, ?_, h0, h.m0, h.t0, h.c0, h.len⟩, Ext.refl.updS (.inl rfl) h.hd (fun _ z => by cases z) fun _ z => by cases z⟩
  · rw [put_left, upd_same]
  · rw [upd_ne (Ne.symm h.ne)]; exact h.hc
theorem Src.pturn {H : Hp} {d cl : Addr} {l m t t' : Int} {cs : List Int} (h : Src H d cl l m t cs) (h0 : 0 ≤ t') :
    ∃ H', DPut H d (.str "turn") (.int t') H' ∧ Src H' d cl l m t' cs ∧ Ext (two d cl) H H' := by
  refine ⟨_, DPut.k (k := .inr "turn") h.hd (by show 4 < sizeLine; decide), ⟨?_, ?_, h.l0, h.m0, h0, h.c0, h.len⟩, Ext.refl.updS (.inl rfl) h.hd (fun _ z => by cases z) fun _ z => by cases z⟩
  · rw [put_turn, upd_same]
  · rw [upd_ne (Ne.symm h.ne)]; exact h.hc
theorem Src.pop {H : Hp} {d cl : Addr} {l m t : Int} {cs : List Int} (h : Src H d cl l m t cs) :
    Src (upd H cl (.lst (cs.map V.int).dropLast)) d cl l m t cs.dropLast ∧ Ext (two d cl) H (upd H cl (.lst (cs.map V.int).dropLast)) := by
  refine ⟨⟨?_, ?_, h.l0, h.m0, h.t0, fun x hx => h.c0 x (List.dropLast_subset cs hx), ?_⟩, Ext.refl.updS (.inr rfl) h.hc (fun _ z => by cases z) fun _ z => by cases z⟩
  · rw [upd_ne h.ne]; exact h.hd
  · rw [upd_same, List.map_dropLast]
  · have := h.len
    rw [List.length_dropLast]
    omega
theorem Src.ex {S : Addr → Prop} {H H' : Hp} {d cl : Addr} {l m t : Int} {cs : List Int} (h : Src H d cl l m t cs) (e : Ext S H H') (nd : ¬ S d) (nc : ¬ S cl) : Src H' d cl l m t cs :=
  ⟨e.keep _ _ nd h.hd (fun _ z => by cases z), e.lst nc h.hc, h.l0, h.m0, h.t0, h.c0, h.len⟩
def SrcOk (H : Hp) (d cl : Addr) : Prop := ∃ l m t cs, Src H d cl l m t cs
theorem SrcOk.ex {H H' : Hp} {d cl : Addr} (h : SrcOk H d cl) (e : Ex H H') : SrcOk H' d cl := by
  obtain ⟨l, m, t, cs, h⟩ := h
  exact ⟨l, m, t, cs, h.ex e not0 not0⟩
/-- what a call of it may change: the source -/
abbrev PEx (d cl : Addr) (H H' : Hp) : Prop := Ext (two d cl) H H'
def spPick : Sp := fun vs H Q _ => ∃ (d cl : Addr) (most : Int), vs = [.ref d, .int most] ∧ SrcOk H d cl ∧ (0 ≤ most ∧ most ≤ 1000000) ∧
  ∀ H' r, PEx d cl H H' → SrcOk H' d cl → 0 ≤ r → (r < most ∨ r = 0) → Q (.int r) H'
def spOpen (K : PySem.W.Frag) : Sp := fun vs H Q _ => ∃ (a : Addr) (ns : List Int), vs = [.ref a] ∧ SqL K H a (ns.map V.int) ∧ ns.length ≤ 63 ∧
  ∀ H' d cl, Ex H H' → H d = none → H cl = none → SrcOk H' d cl → Q (.ref d) H'
theorem sqL_ext {K : PySem.W.Frag} {H H' : Hp} (e : Ex H H') {a : Addr} {xs : List V} (h : SqL K H a xs) : SqL K H' a xs := by
  rcases h with h | h
  · rcases h with h | ⟨o, h⟩
    · exact .inl (.inl (e.lst not0 h))
    · exact .inl (.inr ⟨o, e.frz not0 h⟩)
  · exact .inr h
section
variable {P : Program} {w : World} {K : PySem.W.Frag} {mg : Str → Option Value} {base : Heap}
theorem ok_open {f : Addr} {fd : FuncData} {k : Nat} (F : Fun K "_law_open_cells" "_law_open_cells" sOpen f fd) (mi : mg "int" = none) (ma : mg "abs" = none) : FnOk P w K mg base CX0 (k + 1) f fd ["_law_script"] (spOpen K) := by
  refine F.ok scOpen (fun vs H Q E h => ?_) (fun cdv A outer s H vs Q E hr h => ?_)
  · obtain ⟨a, ns, rfl, _⟩ := h
    rfl
  · obtain ⟨a, ns, rfl, ha, hn, q⟩ := h
    have nd := scOpen.nd
    refine ⟨_, pss_cons (ps_set (i := 1) nd rfl (.inl rfl) pe_int)
      (pss_cons (ps_for PassesOwn.never rfl (pi_list (pv 0)) (pg_name (i := 2) nd rfl (.inl rfl))
        (pss_one (ps_set (i := 1) nd rfl (.inl rfl) (pe_op op_mod (pe_callTy call_int1 (by rfl) mi b_int (pa_cons (pe_op op_add (pe_op op_add (pe_op op_mul (pv 1) pe_int) (pe_op op_mul (pv 2) pe_int)) pe_int) pa_nil)) pe_int))))
      (pss_cons (ps_setLc (i := 3) (own := [("_law_cell", 2)]) (g := gName 2) (tt := tYes) rfl nd rfl rfl (sw_true rfl rfl rfl (by decide +kernel)) (pi_list (pv 0)) (blkOk_by (N := ["_law_script", "_law_stirred", "_law_cell", "_law_cells"]) (sc := defScope sOpen) (by decide +kernel))
        (fun _ _ _ _ _ => pg_name (i := 2) nd rfl (.inl rfl)) (fun _ _ _ _ _ => pts_nil) (fun _ _ _ _ _ => pe_callB call_abs (by rfl) ma b_abs (pa_cons (pv 2) pa_nil)))
      (pss_one (ps_ret (pe_disp (pps_cons pe_str (pe_revL (pv 3)) (pps_cons pe_str pe_int (pps_cons pe_str (pv 1) (pps_cons pe_str pe_int pps_nil)))) (by rfl) (by rfl) (fun z => by cases z) (by decide)))))), ?_⟩
    refine ⟨.ref a, rfl, a, rfl, ⟨_, ha⟩, ?_⟩
    refine for_list (xs := ns.map V.int) (fun i σ H' => H' = H ∧ ∃ y m, σ = [some (.ref a), some (.int m), y, none] ∧ 0 ≤ m ∧ m < 2147483629) ⟨rfl, none, 11, rfl, by omega, by omega⟩ (fun i σ H' _ h => by rw [h.1]; exact ha) (fun i x σ H' hx h => ?_) (fun σ H' h => ?_)
    · obtain ⟨rfl, y, m, rfl, m0, m1⟩ := h
      rw [List.getElem?_map] at hx
      obtain ⟨z, hz, rfl⟩ := Option.map_eq_some_iff.mp hx
      refine ⟨.int m, rfl, m, 69069, rfl, rfl, .inr ⟨by decide, by decide⟩, .int z, rfl, z, 31, rfl, rfl, .inr ⟨by decide, by decide⟩, m * 69069, z * 31, rfl, rfl, m * 69069 + z * 31, 5, rfl, rfl, .inl ⟨_, rfl, _, 2147483629, rfl, rfl, (by show (0 : Int) < 2147483629; decide), ?_⟩⟩
      exact ⟨rfl, _, _, rfl, Int.emod_nonneg _ (by decide), Int.emod_lt_of_pos _ (by decide)⟩
    · obtain ⟨rfl, y, m, rfl, m0, m1⟩ := h
      refine ⟨.ref a, rfl, a, rfl, ⟨_, ha⟩, fun D nD => ?_⟩
      refine lcG (walk_list (K := K) (a := a) (xs := ns.map V.int)) (item := fun i => .int (ns.getD i 0)) (fun _ => true) (fun i => .int (if ns.getD i 0 < 0 then - ns.getD i 0 else ns.getD i 0)) nD (by rw [List.length_map]; omega)
        (fun i H x H' _ y => ⟨y.1, ?_⟩) (fun H e => sqL_ext e ha) (fun i H2 Q _ _ h => tY h)
        (fun i H2 Q hi _ e h => ⟨.int (ns.getD i 0), rfl, ns.getD i 0, rfl, h H2 Ext.refl⟩) (fun H1 e hD => ?_)
      · have hx := y.2
        rw [List.getElem?_map] at hx
        obtain ⟨t, ht, rfl⟩ := Option.map_eq_some_iff.mp hx
        rw [getD_of ht]
      · rw [filt_true, List.length_map, range_getD 0 (fun t => V.int (if t < 0 then - t else t)) ns] at hD
        obtain ⟨cs, hcs⟩ : ∃ cs : List Int, cs = ns.map fun t => if t < 0 then -t else t := ⟨_, rfl⟩
        have hD : H1 D = some (.lst (cs.map V.int)) := by rw [hD, hcs, List.map_map]; rfl
        have len : cs.length = ns.length := by rw [hcs, List.length_map]
        have c0 : ∀ x ∈ cs, 0 ≤ x := fun x hx => by
          rw [hcs] at hx
          obtain ⟨t, _, rfl⟩ := List.mem_map.mp hx
          by_cases z : t < 0
          · rw [if_pos z]; omega
          · rw [if_neg z]; omega
        refine fun p np => ⟨.ref D, rfl, D, cs.map V.int, rfl, sqL_of (by rw [upd_ne (ne_of_none hD np)]; exact hD), fun cl ncl => ?_⟩
        have npc : cl ≠ p := fun z => by rw [z, upd_same] at ncl; cases ncl
        have ncl0 : H1 cl = none := by rw [upd_ne npc] at ncl; exact ncl
        refine ⟨.int m, rfl, ?_, srcK cl 1 m 0, rfl, (by show 4 ≤ 15; decide), ?_⟩
        · rw [upd_ne (Ne.symm npc), upd_same]
        · rw [merge_src]
          refine q _ p cl (((e.updN (e.fre p np)).updN (e.fre cl ncl0)).updN (e.fre p np)) (e.fre p np) (e.fre cl ncl0) ⟨1, m, 0, cs.reverse, upd_same, ?_, by decide, m0, by decide, fun x hx => c0 x (List.mem_reverse.mp hx), ?_⟩
          · rw [upd_ne npc, upd_same, List.map_reverse]
          · rw [List.length_reverse]; omega
end
end Days
set_option Elab.async false
set_option linter.all false
set_option maxRecDepth 100000
set_option maxHeartbeats 4000000
namespace Days
open PySem PySem.Spec PyProof.Rows L2 Y3 Cl
theorem fdiv_nn {a b : Int} (h : 0 ≤ a) (k : 0 ≤ b) : 0 ≤ a.fdiv b := by
  rw [Int.fdiv_eq_ediv_of_nonneg a k]
  exact Int.ediv_nonneg h k
section
variable {P : Program} {w : World} {K : PySem.W.Frag} {mg : Str → Option Value} {base : Heap}
theorem ok_pick {f : Addr} {fd : FuncData} {k : Nat} (F : Fun K "_law_pick" "_law_pick" sPick f fd) (mi : mg "int" = none) (ml : mg "len" = none) : FnOk P w K mg base CX0 (k + 1) f fd ["_law_source", "_law_most"] spPick := by
  refine F.ok scPick (fun vs H Q E h => ?_) (fun cdv A outer s H vs Q E hr h => ?_)
  · obtain ⟨d, cl, most, rfl, _⟩ := h
    rfl
  · obtain ⟨d, cl, most, rfl, ⟨l, m, t, cs, src⟩, ⟨b0, b1⟩, q⟩ := h
    have nd := scPick.nd
    have hu := hu_of hr
    refine ⟨_, pss_cons (ps_if (pt_cmpR op_lt (pv 1) pe_int (nomark _)) (pss_one (ps_ret pe_int)) pss_nil)
      (pss_cons (ps_set (i := 2) nd rfl (.inl rfl) (pe_dget hu (pv 0) pe_str (fun _ _ => rfl)))
      (pss_cons (ps_while PassesOwn.never (PW.pt (pw_and (pt_cmpR op_lt (pe_dget hu (pv 0) pe_str (fun _ _ => rfl)) pe_int (nomark _)) (pw_and1 (pt_cmpR op_gt (pe_callB call_len_seq (by rfl) ml PySem.boot_len (pa_cons (pv 2) pa_nil)) pe_int (nomark _)))))
        (pss_one (ps_dput hu (pv 0) pe_str (pe_bm0 PySem.F.plainAttrs_list PySem.F.slot_list_pop PySem.F.type_list_pop mt_pop (pv 2)) rfl)))
      (pss_cons (ps_set (i := 3) nd rfl (.inl rfl) (pe_dget hu (pv 0) pe_str (fun _ _ => rfl)))
      (pss_cons (ps_if (pt_cmpR op_gt (pv 3) pe_int (nomark _))
        (pss_cons (ps_dput hu (pv 0) pe_str (pe_op op_fdivN (pv 3) (pv 1)) rfl)
        (pss_one (ps_ret (pe_op op_mod (pe_callTy call_int1 (by rfl) mi b_int (pa_cons (pv 3) pa_nil)) (pv 1))))) pss_nil)
      (pss_cons (ps_dput hu (pv 0) pe_str (pe_op op_add (pe_dget hu (pv 0) pe_str (fun _ _ => rfl)) pe_int) rfl)
      (pss_cons (ps_set (i := 4) nd rfl (.inl rfl) (pe_dget hu (pv 0) pe_str (fun _ _ => rfl)))
      (pss_cons (ps_set (i := 5) nd rfl (.inl rfl) (pe_op op_mod (pe_callTy call_int1 (by rfl) mi b_int (pa_cons (pe_op op_add (pe_dget hu (pv 0) pe_str (fun _ _ => rfl)) (pe_op op_mul (pv 4) pe_int)) pa_nil)) pe_int))
      (pss_cons (ps_set (i := 5) nd rfl (.inl rfl) (pe_op op_mod (pe_callTy call_int1 (by rfl) mi b_int (pa_cons (pe_op op_add (pe_op op_mul (pv 5) (pv 5)) (pe_op op_mul (pv 4) pe_int)) pa_nil)) pe_int))
      (pss_one (ps_ret (pe_op op_mod (pe_callTy call_int1 (by rfl) mi b_int (pa_cons (pe_op op_fdivN (pv 5) pe_int) pa_nil)) (pv 1)))))))))))), ?_⟩
    refine ⟨.int most, rfl, most, 2, rfl, rfl, _, rfl, ite2 (fun c => ?_) (fun c => ?_)⟩
    · exact q H 0 Ext.refl ⟨l, m, t, cs, src⟩ (Int.le_refl _) (.inr rfl)
    have h2 : ¬ most < 2 := fun z => c (decide_eq_true z)
    refine ⟨.ref d, rfl, d, _, rfl, src.gcells, ?_⟩
    refine ⟨fun z σ H' => ∃ l cs, σ = [some (.ref d), some (.int most), some (.ref cl), none, none, none] ∧ z = cs.length ∧ PEx d cl H H' ∧ Src H' d cl l m t cs, ⟨_, l, cs, rfl, rfl, Ext.refl, src⟩, fun z σ H1 hW => ?_⟩
    obtain ⟨l1, cs1, rfl, rfl, e1, s1⟩ := hW
    refine ⟨.ref d, rfl, d, .int l1, rfl, s1.gleft, l1, 2, rfl, rfl, _, rfl, ite2 (fun c1 => ⟨.ref cl, rfl, cl, _, rfl, .inl (sqL_of s1.hc), ((cs1.map V.int).length : Nat), 0, rfl, rfl, _, rfl, ite2 (fun c2 => ?body) (fun c2 => ?_)⟩) (fun c1 => ?_)⟩
    case body =>
      have hne : 0 < cs1.length := by
        have := of_decide_eq_true c2
        rw [List.length_map] at this
        omega
      refine ⟨fun σ' H' => ∃ m', m' < cs1.length ∧ ∃ l cs, σ' = [some (.ref d), some (.int most), some (.ref cl), none, none, none] ∧ m' = cs.length ∧ PEx d cl H H' ∧ Src H' d cl l m t cs, fun _ _ z => z, ?_⟩
      obtain ⟨s2, e2⟩ := s1.pop
      obtain ⟨y, hy⟩ : ∃ y, cs1[cs1.length - 1]? = some y := ⟨_, List.getElem?_eq_getElem (by omega)⟩
      obtain ⟨H3, p3, s3, e3⟩ := s2.pleft (l' := y) (s1.c0 y (List.mem_of_getElem? hy))
      exact ⟨.ref cl, rfl, .inl ⟨rfl, _, sqL_of s1.hc⟩, cl, _, .int y, rfl, rfl, s1.hc, by rw [List.length_map, List.getElem?_map, hy]; rfl, .ref d, rfl, d, H3, rfl, p3, cs1.dropLast.length, by rw [List.length_dropLast]; omega, y, _, rfl, rfl, (e1.trans e2).trans e3, s3⟩
    all_goals
      refine ⟨.ref d, rfl, d, .int l1, rfl, s1.gleft, ?_⟩
      refine ⟨.int l1, rfl, l1, 1, rfl, rfl, _, rfl, ite2 (fun c3 => ?_) (fun c3 => ?_)⟩
      · obtain ⟨H3, p3, s3, e3⟩ := s1.pleft (l' := l1.fdiv most) (fdiv_nn s1.l0 b0)
        refine ⟨.int l1, rfl, .int most, rfl, l1, most, rfl, rfl, ⟨by omega, by omega⟩, .ref d, rfl, d, H3, rfl, p3, ?_⟩
        exact ⟨.int l1, rfl, .inl ⟨l1, rfl, .int most, rfl, l1, most, rfl, rfl, (by show (0 : Int) < most; omega), q H3 _ (e1.trans e3) ⟨_, _, _, _, s3⟩ (Int.emod_nonneg _ (by omega)) (.inl (Int.emod_lt_of_pos _ (by omega)))⟩⟩
      · have t0 := s1.t0
        have m0 := s1.m0
        obtain ⟨H3, p3, s3, e3⟩ := s1.pturn (t' := t + 1) (by omega)
        refine ⟨.ref d, rfl, d, .int t, rfl, s1.gturn, t, 1, rfl, rfl, .ref d, rfl, d, H3, rfl, p3, ?_⟩
        refine ⟨.ref d, rfl, d, .int (t + 1), rfl, s3.gturn, ?_⟩
        refine ⟨.ref d, rfl, d, .int m, rfl, s3.gmixed, .int (t + 1), rfl, t + 1, 104729, rfl, rfl, .inr ⟨by decide, by decide⟩, m, (t + 1) * 104729, rfl, rfl, .inl ⟨m + (t + 1) * 104729, rfl, m + (t + 1) * 104729, 998244353, rfl, rfl, (by show (0 : Int) < 998244353; decide), ?_⟩⟩
        have u0 : 0 ≤ (m + (t + 1) * 104729) % 998244353 := Int.emod_nonneg _ (by decide)
        have u1 : (m + (t + 1) * 104729) % 998244353 < 998244353 := Int.emod_lt_of_pos _ (by decide)
        refine ⟨_, rfl, _, rfl, _, _, rfl, rfl, .inl ⟨by show -(2 ^ 64) < (m + (t + 1) * 104729) % 998244353; omega, by show (m + (t + 1) * 104729) % 998244353 < 2 ^ 64; omega⟩, .int (t + 1), rfl, t + 1, 17, rfl, rfl, .inr ⟨by decide, by decide⟩, _, (t + 1) * 17, rfl, rfl, .inl ⟨_, rfl, _, 2147483647, rfl, rfl, (by show (0 : Int) < 2147483647; decide), ?_⟩⟩
        refine ⟨_, rfl, _, 16, rfl, rfl, ⟨by decide, by decide⟩, .inl ⟨_, rfl, .int most, rfl, _, most, rfl, rfl, (by show (0 : Int) < most; omega), q H3 _ (e1.trans e3) ⟨_, _, _, _, s3⟩ (Int.emod_nonneg _ (by omega)) (.inl (Int.emod_lt_of_pos _ (by omega)))⟩⟩
end
end Days
set_option Elab.async false
set_option linter.all false
set_option maxRecDepth 100000
set_option maxHeartbeats 4000000
namespace Days
open PySem PySem.Spec PyProof.Rows L2 Y3 Cl
def spDraw (n : Nat) : Sp := fun vs H Q _ => ∃ (d cl : Addr) (dep : Nat), vs = [.ref d, .int (dep : Nat)] ∧ SrcOk H d cl ∧ dep + 1 ≤ n ∧
  ∀ H' v c, PEx d cl H H' → SrcOk H' d cl → CAt H' v c → Good dep c → Q v H'
theorem Src.nd {H : Hp} {d cl : Addr} (h : SrcOk H d cl) {p : Addr} (np : H p = none) : p ≠ d ∧ p ≠ cl ∧ ¬ two d cl p := by
  obtain ⟨l, m, t, cs, s⟩ := h
  have a : p ≠ d := fun z => by rw [z, s.hd] at np; cases np
  have b : p ≠ cl := fun z => by rw [z, s.hc] at np; cases np
  exact ⟨a, b, fun z => z.elim a b⟩
theorem SrcOk.upd {H : Hp} {d cl p : Addr} {o : HO} (h : SrcOk H d cl) (a : p ≠ d) (b : p ≠ cl) : SrcOk (upd H p o) d cl := by
  obtain ⟨l, m, t, cs, s⟩ := h
  exact ⟨l, m, t, cs, by rw [upd_ne (Ne.symm a)]; exact s.hd, by rw [upd_ne (Ne.symm b)]; exact s.hc, s.l0, s.m0, s.t0, s.c0, s.len⟩
theorem three_at {e r : Int} (h0 : 0 ≤ r) (h : r < 3) (e0 : 0 ≤ e ∧ e ≤ 29) : ∃ eo : Option Int, atI [V.non, V.non, V.int e] r = some (eV eo) ∧ endOk eo := by
  have hr : r = 0 ∨ r = 1 ∨ r = 2 := by omega
  rcases hr with rfl | rfl | rfl
  · exact ⟨none, rfl, trivial⟩
  · exact ⟨none, rfl, trivial⟩
  · exact ⟨some e, rfl, e0⟩
theorem op_at {r : Int} (h0 : 4 ≤ r) (h : r < 7) : ∃ o : Op, atI [V.str "both", V.str "common", V.str "without"] (r - 4) = some (.str (opS o)) := by
  have hr : r = 4 ∨ r = 5 ∨ r = 6 := by omega
  rcases hr with rfl | rfl | rfl
  · exact ⟨.both, rfl⟩
  · exact ⟨.common, rfl⟩
  · exact ⟨.without, rfl⟩
section
variable {P : Program} {w : World} {K : PySem.W.Frag} {mg : Str → Option Value} {base : Heap}
theorem ok_draw {f fP : Addr} {fd fdP : FuncData} {k n : Nat} (F : Fun K "_law_draw_calendar" "_law_draw_calendar" sDraw f fd) (mt : mg "tuple" = none) (ms : mg "sorted" = none) (me : mg "set" = none) (mr : mg "range" = none)
    (GP : FnOk P w K mg base CX0 k fP fdP ["_law_source", "_law_most"] spPick) (gP : mg "_law_pick" = some (.ref fP)) (kP : PySem.W.keepIn K (.ref fP) = true) (bP : Binds K fdP ["_law_source", "_law_most"] [])
    (GD : FnOk P w K mg base CX0 k f fd ["_law_source", "_law_depth"] (spDraw n)) (gD : mg "_law_draw_calendar" = some (.ref f)) (bD : Binds K fd ["_law_source", "_law_depth"] []) :
    FnOk P w K mg base CX0 (k + 1) f fd ["_law_source", "_law_depth"] (spDraw (n + 1)) := by
  refine F.ok scDraw (fun vs H Q E h => ?_) (fun cdv A outer s H vs Q E hr h => ?_)
  · obtain ⟨d, cl, dep, rfl, _⟩ := h
    rfl
  · obtain ⟨d, cl, dep, rfl, src, hdep, q⟩ := h
    have nd := scDraw.nd
    have kD := F.kp
    refine ⟨_, pss_cons (ps_set (i := 2) nd rfl (.inl rfl) (pe_call GP hr (by rfl) gP kP bP .nil pass0 (pa_cons (pv 0) (pa_cons (pe_ifExp (pt_cmpR op_gt (pv 1) pe_int (nomark _)) pe_int pe_int) pa_nil))))
      (pss_cons (ps_if (pt_cmpR op_lt (pv 2) pe_int (nomark _))
        (pss_cons (ps_set (i := 3) nd rfl (.inl rfl) (pe_ix ix_list (pe_lst (pa_cons pe_non (pa_cons pe_non (pa_cons (pe_call GP hr (by rfl) gP kP bP .nil pass0 (pa_cons (pv 0) (pa_cons pe_int pa_nil))) pa_nil)))) (pe_call GP hr (by rfl) gP kP bP .nil pass0 (pa_cons (pv 0) (pa_cons pe_int pa_nil))) (fun _ _ => rfl)))
        (pss_one (ps_ret (pe_tup (pa_cons pe_str (pa_cons (pe_op op_add pe_int (pe_call GP hr (by rfl) gP kP bP .nil pass0 (pa_cons (pv 0) (pa_cons pe_int pa_nil)))) (pa_cons (pe_call GP hr (by rfl) gP kP bP .nil pass0 (pa_cons (pv 0) (pa_cons pe_int pa_nil))) (pa_cons (pv 3) pa_nil)))))))) pss_nil)
      (pss_cons (ps_if (pt_cmpR op_eq (pv 2) pe_int (nomark _))
        (pss_one (ps_ret (pe_tup (pa_cons pe_str (pa_cons (pe_callTy call_tuple_of (by rfl) mt b_tuple (pa_cons (pe_callB (cr_sortedSet rfl) (by rfl) ms b_sorted (pa_cons (pe_callTy (Y2.cr_setL rfl) (by rfl) me b_set (pa_cons
          (pe_lc (own := [("_law_turn", 5)]) (g := gName 5) (tt := tYes) rfl nd (pi_range1 rfl mr (pa_cons (pe_call GP hr (by rfl) gP kP bP .nil pass0 (pa_cons (pv 0) (pa_cons pe_int pa_nil))) pa_nil)) (blkOk_by (N := ["_law_source", "_law_depth", "_law_road", "_law_end", "_law_one", "_law_turn"]) (sc := defScope sDraw) (by decide +kernel))
            (fun _ _ _ _ _ => pg_name (i := 5) nd rfl (.inl rfl)) (fun _ _ _ _ _ => pts_nil) (fun _ _ _ _ _ => pe_call GP hr (by rfl) gP kP bP .nil pass0 (pa_cons (pv 0) (pa_cons pe_int pa_nil)))) pa_nil)) pa_nil)) pa_nil)) pa_nil))))) pss_nil)
      (pss_cons (ps_set (i := 4) nd rfl (.inl rfl) (pe_call GD hr (by rfl) gD kD bD .nil pass0 (pa_cons (pv 0) (pa_cons (pe_op op_sub (pv 1) pe_int) pa_nil))))
      (pss_cons (ps_if (pt_cmpR op_eq (pv 2) pe_int (nomark _))
        (pss_one (ps_ret (pe_tup (pa_cons pe_str (pa_cons (pv 4) (pa_cons (pe_call GP hr (by rfl) gP kP bP .nil pass0 (pa_cons (pv 0) (pa_cons pe_int pa_nil))) pa_nil)))))) pss_nil)
      (pss_one (ps_ret (pe_tup (pa_cons (pe_ix ix_list (pe_lst (pa_cons pe_str (pa_cons pe_str (pa_cons pe_str pa_nil)))) (pe_op op_sub (pv 2) pe_int) (fun _ _ => rfl)) (pa_cons (pv 4) (pa_cons (pe_call GD hr (by rfl) gD kD bD .nil pass0 (pa_cons (pv 0) (pa_cons (pe_op op_sub (pv 1) pe_int) pa_nil))) pa_nil)))))))))), ?_⟩
    refine ⟨.ref d, rfl, .int (dep : Nat), rfl, (dep : Nat), 0, rfl, rfl, _, rfl, ite2 (fun c0 => ⟨d, cl, 7, rfl, src, by omega, fun H1 road e1 s1 r0 r1 => ?_⟩) (fun c0 => ⟨d, cl, 3, rfl, src, by omega, fun H1 road e1 s1 r0 r1 => ?_⟩)⟩
    all_goals
      have hroad : road < 7 ∧ (3 ≤ road → 1 ≤ dep) := by
        first
          | (have := of_decide_eq_true c0; omega)
          | omega
      clear r1 c0
      refine ⟨.int road, rfl, road, 2, rfl, rfl, _, rfl, ite2 (fun c1 => ?_) (fun c1 => ?_)⟩
      · refine ⟨.ref d, rfl, d, cl, 30, rfl, s1, by omega, fun H2 e0 e2 s2 e00 e01 => ⟨le3, fun lp nlp => ?_⟩⟩
        obtain ⟨l1, l2, l3⟩ := Src.nd s2 nlp
        have s3 := s2.upd (o := .lst [.non, .non, .int e0]) l1 l2
        have hl3 : upd H2 lp (.lst [.non, .non, .int e0]) lp = some (.lst [.non, .non, .int e0]) := upd_same
        have e3 : PEx d cl H2 (upd H2 lp (.lst [.non, .non, .int e0])) := Ext.refl.updN nlp
        generalize upd H2 lp (.lst [.non, .non, .int e0]) = H3 at *
        refine ⟨.ref d, rfl, d, cl, 3, rfl, s3, by omega, fun H4 r e4 s4 r0' r1' => ?_⟩
        obtain ⟨eo, he, ho⟩ := three_at (e := e0) (r := r) r0' (by omega) (by omega)
        refine ⟨lp, _, r, eV eo, rfl, rfl, sqL_of (e4.lst l3 hl3), he, ?_⟩
        refine ⟨.ref d, rfl, d, cl, 6, rfl, s4, by omega, fun H5 k5 e5 s5 k50 k51 => ⟨1, k5, rfl, rfl, .ref d, rfl, d, cl, 9, rfl, s5, by omega, fun H6 k6 e6 s6 k60 k61 => ⟨_, rfl, le4, fun tp ntp => ?_⟩⟩⟩
        have e67 : PEx d cl H6 (upd H6 tp (.tup [.str "every", .int (1 + k5), .int k6, eV eo])) := Ext.refl.updN ntp
        obtain ⟨m1, m2, m3⟩ := Src.nd s6 ntp
        exact q _ _ (.every (1 + k5) k6 eo) ((((((e1.trans e2).trans e3).trans e4).trans e5).trans e6).trans e67) (s6.upd m1 m2) (.every upd_same) (by
          cases dep <;> exact ⟨⟨by omega, by omega⟩, ⟨by omega, by omega⟩, ho⟩)
      · have h2 : 2 ≤ road := by
          have : ¬ road < 2 := fun z => c1 (decide_eq_true z)
          omega
        refine ⟨.int road, rfl, rfl, _, rfl, ite2 (fun c2 => ?_) (fun c2 => ?_)⟩
        · refine ⟨.ref d, rfl, d, cl, 5, rfl, s1, by omega, fun H2 m e2 s2 m0 m1 => ⟨m, rfl, by omega, by omega, fun D nD => ?_⟩⟩
          obtain ⟨l1, l2, l3⟩ := Src.nd s2 nD
          refine lc_it (walk_range (lo := 0) (n := m.toNat)) (CI (fun H' => PEx d cl H2 H' ∧ SrcOk H' d cl) (fun i acc => ∃ ts : List Int, acc = ts.map V.int ∧ ts.length = i ∧ ∀ t ∈ ts, 0 ≤ t ∧ t ≤ 29) D)
            (CI.start ⟨Ext.refl.updN nD, s2.upd l1 l2⟩ ⟨[], rfl, rfl, fun _ z => nomatch z⟩) (fun _ _ _ _ => trivial) (fun i x H3 H4 hi h y => ?_) (fun H3 h => ?_)
          · obtain ⟨⟨e3, s3⟩, acc, hD, ts, rfl, hts, htb⟩ := h
            obtain ⟨rfl, rfl⟩ := y
            refine ⟨rfl, tYes_ok ⟨.ref d, rfl, d, cl, 30, rfl, s3, by omega, fun H5 t e5 s5 t0 t1 => ?_⟩⟩
            refine CI.put ⟨e3.trans e5, s5⟩ (e5.lst l3 hD) (fun o => ⟨(e3.trans e5).updN nD, s5.upd l1 l2⟩) (by rw [List.length_map]; exact few (by omega)) ⟨ts ++ [t], by rw [List.map_append]; rfl, by rw [List.length_append, hts]; rfl, fun u hu => ?_⟩
            rcases List.mem_append.mp hu with z | z
            · exact htb u z
            · rw [List.mem_singleton.mp z]; omega
          · obtain ⟨⟨e3, s3⟩, acc, hD, ts, rfl, hts, htb⟩ := h
            refine ⟨D, ts, rfl, sqL_of hD, by omega, fun sa cn nsa hcn => ?_⟩
            obtain ⟨x1, x2, x3⟩ := Src.nd s3 nsa
            have s4 := s3.upd (o := SetO w sa (fun j => decide (j ∈ ts)) cn) x1 x2
            have e4 : PEx d cl H3 (upd H3 sa (SetO w sa (fun j => decide (j ∈ ts)) cn)) := Ext.refl.updN nsa
            refine ⟨sa, _, cn, rfl, upd_same, by omega, fun us p hpw hmem hlen np => ?_⟩
            obtain ⟨H4, hH4⟩ : ∃ H4 : Hp, H4 = upd H3 sa (SetO w sa (fun j => decide (j ∈ ts)) cn) := ⟨_, rfl⟩
            rw [← hH4] at s4 e4
            have np : H4 p = none := by rw [hH4]; exact np
            obtain ⟨y1, y2, y3⟩ := Src.nd s4 np
            have s5 := s4.upd (o := .lst (us.map V.int)) y1 y2
            have e5 : PEx d cl H4 (upd H4 p (.lst (us.map V.int))) := Ext.refl.updN np
            refine ⟨p, _, rfl, .inl ⟨sqL_of upd_same, fun tp ntp => ⟨le2, fun r nr => ?_⟩⟩⟩
            obtain ⟨H5, hH5⟩ : ∃ H5 : Hp, H5 = upd H4 p (.lst (us.map V.int)) := ⟨_, rfl⟩
            rw [← hH5] at s5 e5
            have ntp : H5 tp = none := by rw [hH5, hH4]; exact ntp
            obtain ⟨z1, z2, z3⟩ := Src.nd s5 ntp
            have s6 := s5.upd (o := .tup (us.map V.int)) z1 z2
            have e6 : PEx d cl H5 (upd H5 tp (.tup (us.map V.int))) := Ext.refl.updN ntp
            have htp : upd H5 tp (.tup (us.map V.int)) tp = some (.tup (us.map V.int)) := upd_same
            obtain ⟨H6, hH6⟩ : ∃ H6 : Hp, H6 = upd H5 tp (.tup (us.map V.int)) := ⟨_, rfl⟩
            rw [← hH6] at s6 e6 htp
            have nr : H6 r = none := by rw [hH6, hH5, hH4]; exact nr
            obtain ⟨w1, w2, w3⟩ := Src.nd s6 nr
            have e7 : PEx d cl H6 (upd H6 r (.tup [.str "list", .ref tp])) := Ext.refl.updN nr
            have e17 := (((((e1.trans e2).trans e3).trans e4).trans e5).trans e6).trans e7
            have s7 := s6.upd (o := .tup [.str "list", .ref tp]) w1 w2
            have ht7 := e7.tup _ _ htp
            subst hH6 hH5 hH4
            exact q _ _ (.list us) e17 s7 (.list upd_same ht7) (by
              cases dep <;> exact ⟨fun t ht => htb t (of_decide_eq_true ((hmem t).mp ht)), by omega⟩)
        · have h3 : 3 ≤ road := by
            have : ¬ road = 2 := fun z => c2 (decide_eq_true (by rw [z]))
            omega
          have hd1 := hroad.2 h3
          obtain ⟨dp, rfl⟩ : ∃ dp, dep = dp + 1 := ⟨dep - 1, by omega⟩
          have ed : ((dp + 1 : Nat) : Int) - 1 = (dp : Nat) := by omega
          refine ⟨.ref d, rfl, .int ((dp + 1 : Nat) : Int), rfl, ((dp + 1 : Nat) : Int), 1, rfl, rfl, d, cl, dp, (by show [V.ref d, V.int (((dp + 1 : Nat) : Int) - 1)] = _; rw [ed]), s1, by omega, fun H2 v1 ca e2 s2 hc1 gd1 => ?_⟩
          refine ⟨.int road, rfl, rfl, _, rfl, ite2 (fun c3 => ?_) (fun c3 => ?_)⟩
          · refine ⟨v1, rfl, .ref d, rfl, d, cl, 8, rfl, s2, by omega, fun H3 mv e3 s3 m0 m1 => ⟨le3, fun r nr => ?_⟩⟩
            obtain ⟨w1, w2, w3⟩ := Src.nd s3 nr
            have e4 : PEx d cl H3 (upd H3 r (.tup [.str "moved", v1, .int mv])) := Ext.refl.updN nr
            exact q _ _ (.moved ca mv) (((e1.trans e2).trans e3).trans e4) (s3.upd w1 w2) (.moved upd_same ((hc1.ext e3).ext e4)) ⟨gd1, by omega, by omega⟩
          · have h4 : 4 ≤ road := by
              have : ¬ road = 3 := fun z => c3 (decide_eq_true (by rw [z]))
              omega
            obtain ⟨o, ho⟩ := op_at h4 hroad.1
            refine ⟨le3, fun lp nlp => ?_⟩
            obtain ⟨l1, l2, l3⟩ := Src.nd s2 nlp
            have s3 := s2.upd (o := .lst [.str "both", .str "common", .str "without"]) l1 l2
            have hl3 : upd H2 lp (.lst [.str "both", .str "common", .str "without"]) lp = some (.lst [.str "both", .str "common", .str "without"]) := upd_same
            have e3 : PEx d cl H2 (upd H2 lp (.lst [.str "both", .str "common", .str "without"])) := Ext.refl.updN nlp
            generalize upd H2 lp (.lst [.str "both", .str "common", .str "without"]) = H3 at *
            refine ⟨.int road, rfl, road, 4, rfl, rfl, lp, _, road - 4, .str (opS o), rfl, rfl, sqL_of hl3, ho, ?_⟩
            refine ⟨v1, rfl, .ref d, rfl, .int ((dp + 1 : Nat) : Int), rfl, ((dp + 1 : Nat) : Int), 1, rfl, rfl, d, cl, dp, (by show [V.ref d, V.int (((dp + 1 : Nat) : Int) - 1)] = _; rw [ed]), s3, by omega, fun H4 v2 cb e4 s4 hc2 gd2 => ⟨le3, fun r nr => ?_⟩⟩
            obtain ⟨w1, w2, w3⟩ := Src.nd s4 nr
            have e5 : PEx d cl H4 (upd H4 r (.tup [.str (opS o), v1, v2])) := Ext.refl.updN nr
            exact q _ _ (.pair o ca cb) ((((e1.trans e2).trans e3).trans e4).trans e5) (s4.upd w1 w2) (.pair upd_same (((hc1.ext e3).ext e4).ext e5) (hc2.ext e5)) ⟨gd1, gd2⟩
theorem draw_none {f : Addr} {fd : FuncData} {k : Nat} : FnOk P w K mg base CX0 k f fd ["_law_source", "_law_depth"] (spDraw 0) := by
  have no : ∀ vs H Q E, ¬ spDraw 0 vs H Q E := fun vs H Q E h => by
    obtain ⟨_, _, _, _, _, z, _⟩ := h
    omega
  exact ⟨fun vs H Q E h => absurd h (no vs H Q E), fun A outer s H args us vs Q E _ _ _ _ h => absurd h (no vs H Q E)⟩
end
end Days
set_option Elab.async false
set_option linter.all false
set_option maxRecDepth 100000
set_option maxHeartbeats 4000000
namespace Days
open PySem PySem.Spec PyProof.Rows L2 Y3 Cl
/-! the law's own look at a calendar -/
abbrev nLHas : List Str := ["_law_calendar", "_law_time", "_law_word", "_law_step", "_law_start", "_law_end", "_law_one", "_law_other"]
def spLHas (n : Nat) : Sp := fun vs H Q _ => ∃ (v : V) (c : Cal) (t : Int) (d : Nat), vs = [v, .int t] ∧ CAt H v c ∧ Good d c ∧ d + 1 ≤ n ∧ ∀ H', Ex H H' → Q (.bl (c.has t)) H'
def spLTail (n : Nat) : Sp := fun vs H Q _ => ∃ (v : V) (c : Cal) (d : Nat), vs = [v] ∧ CAt H v c ∧ Good d c ∧ d + 1 ≤ n ∧ ∀ H', Ex H H' → Q (.int (tl c)) H'
theorem inV_ints (t : Int) (ts : List Int) : inV (.int t) (ts.map V.int) = decide (t ∈ ts) := by
  unfold inV
  rw [List.any_map]
  by_cases h : t ∈ ts
  · rw [decide_eq_true h, List.any_eq_true]
    exact ⟨t, h, by simp [eqV]⟩
  · rw [decide_eq_false h, List.any_eq_false]
    intro x hx
    have : x ≠ t := fun z => h (by rw [← z]; exact hx)
    simp [eqV, this]
theorem flat_ints (ts : List Int) : (ts.map V.int).all flatV = true := by
  rw [List.all_map, List.all_eq_true]
  exact fun _ _ => rfl
theorem maxL_is {m : Int} {ts : List Int} (h1 : m ∈ (-1 : Int) :: ts) (h2 : ∀ y, y ∈ (-1 : Int) :: ts → y ≤ m) : m = maxL ts := by
  have lo := maxL_lo ts
  have hi := maxL_hi (ts := ts) (m := m) (h2 (-1) List.mem_cons_self) fun t ht => h2 t (List.mem_cons_of_mem _ ht)
  rcases List.mem_cons.mp h1 with e | e
  · omega
  · have := maxL_ge e; omega
section
variable {P : Program} {w : World} {K : PySem.W.Frag} {mg : Str → Option Value} {base : Heap}
theorem has_none {f : Addr} {fd : FuncData} {k : Nat} : FnOk P w K mg base CX0 k f fd ["_law_calendar", "_law_time"] (spLHas 0) := by
  have no : ∀ vs H Q E, ¬ spLHas 0 vs H Q E := fun vs H Q E h => by
    obtain ⟨_, _, _, _, _, _, _, z, _⟩ := h
    omega
  exact ⟨fun vs H Q E h => absurd h (no vs H Q E), fun A outer s H args us vs Q E _ _ _ _ h => absurd h (no vs H Q E)⟩
theorem tail_none {f : Addr} {fd : FuncData} {k : Nat} : FnOk P w K mg base CX0 k f fd ["_law_calendar"] (spLTail 0) := by
  have no : ∀ vs H Q E, ¬ spLTail 0 vs H Q E := fun vs H Q E h => by
    obtain ⟨_, _, _, _, _, _, z, _⟩ := h
    omega
  exact ⟨fun vs H Q E h => absurd h (no vs H Q E), fun A outer s H args us vs Q E _ _ _ _ h => absurd h (no vs H Q E)⟩
theorem ok_lhas {f : Addr} {fd : FuncData} {k n : Nat} (F : Fun K "_law_has" "_law_has" sLHas f fd) (mi : mg "int" = none)
    (GD : FnOk P w K mg base CX0 k f fd ["_law_calendar", "_law_time"] (spLHas n)) (gD : mg "_law_has" = some (.ref f)) (bD : Binds K fd ["_law_calendar", "_law_time"] []) :
    FnOk P w K mg base CX0 (k + 1) f fd ["_law_calendar", "_law_time"] (spLHas (n + 1)) := by
  refine F.ok scLHas (fun vs H Q E h => ?_) (fun cdv A outer s H vs Q E hr h => ?_)
  · obtain ⟨v, c, t, d, rfl, _⟩ := h
    rfl
  · obtain ⟨v, c, t, d, rfl, hc, gd, hd, q⟩ := h
    have nd := scLHas.nd
    have kD := F.kp
    refine ⟨_, pss_cons (ps_set (i := 2) nd rfl (.inl rfl) (pe_ix ix_tup (pv 0) pe_int (fun _ _ => rfl)))
      (pss_cons (ps_if (pt_cmpR op_eq (pv 2) pe_str (nomark _))
        (pss_cons (ps_asg (pe_slice sl_tup (pv 0) (po_some pe_int) po_none) (pg_three (i := 3) (j := 4) (l := 5) nd rfl rfl rfl rfl rfl rfl rfl))
        (pss_one (ps_ret (pe_and (pe_cmpR op_ge (pv 1) (pv 4) (nomark _)) (pe_and (pe_cmpR op_eq (pe_op op_mod (pe_callTy call_int1 (by rfl) mi b_int (pa_cons (pe_op op_sub (pv 1) (pv 4)) pa_nil)) (pv 3)) pe_int (nomark _))
          (pe_one (pe_or (pe_cmpR op_isN (pv 5) pe_non (nomark _)) (pe_one (pe_cmpR op_le (pv 1) (pv 5) (nomark _)))))))))) pss_nil)
      (pss_cons (ps_if (pt_cmpR op_eq (pv 2) pe_str (nomark _))
        (pss_one (ps_ret (pe_cmpR op_in_seq (pv 1) (pe_ix ix_tup (pv 0) pe_int (fun _ _ => rfl)) (by rfl)))) pss_nil)
      (pss_cons (ps_set (i := 6) nd rfl (.inl rfl) (pe_call GD hr (by rfl) gD kD bD .nil pass0 (pa_cons (pe_ix ix_tup (pv 0) pe_int (fun _ _ => rfl)) (pa_cons (pe_ifExp (pt_cmpR op_eq (pv 2) pe_str (nomark _)) (pe_op op_sub (pv 1) (pe_ix ix_tup (pv 0) pe_int (fun _ _ => rfl))) (pv 1)) pa_nil))))
      (pss_cons (ps_if (pt_cmpR op_eq (pv 2) pe_str (nomark _)) (pss_one (ps_ret (pv 6))) pss_nil)
      (pss_cons (ps_set (i := 7) nd rfl (.inl rfl) (pe_call GD hr (by rfl) gD kD bD .nil pass0 (pa_cons (pe_ix ix_tup (pv 0) pe_int (fun _ _ => rfl)) (pa_cons (pv 1) pa_nil))))
      (pss_one (ps_ret (pe_ifExp (pt_cmpR op_eq (pv 2) pe_str (nomark _)) (pe_or (pv 6) (pe_one (pv 7))) (pe_ifExp (pt_cmpR op_eq (pv 2) pe_str (nomark _)) (pe_and (pv 6) (pe_one (pv 7))) (pe_and (pv 6) (pe_one (pe_not (pv 7))))))))))))), ?_⟩
    cases hc with
    | @every a kk ss ee ha =>
      obtain ⟨⟨k1, k6⟩, _, _⟩ : (1 ≤ kk ∧ kk ≤ 6) ∧ (0 ≤ ss ∧ ss ≤ 8) ∧ endOk ee := by cases d <;> exact gd
      refine ⟨.ref a, rfl, a, _, 0, .str "every", rfl, rfl, sqT_of ha, atI_nat (j := 0) rfl, ?_⟩
      refine ⟨.str "every", rfl, rfl, _, rfl, ite2 (fun _ => ?_) (fun e => absurd (decide_eq_true rfl) e)⟩
      refine ⟨.ref a, rfl, 1, rfl, a, _, rfl, sqT_of ha, (by show ¬ (HT.sIx 4 0 (some 1) = 0 ∧ HT.sIx 4 4 none = 4); decide), fun p np => ?_⟩
      have e1 : Ex H (upd H p (.tup [.int kk, .int ss, eV ee])) := Ext.upd1 np
      have hp : upd H p (.tup [.int kk, .int ss, eV ee]) p = some (.tup [.int kk, .int ss, eV ee]) := upd_same
      have hv : ∀ b : Bool, b = (decide (ss ≤ t) && decide ((t - ss) % kk = 0) && upTo ee t) → Q (.bl b) (upd H p (.tup [.int kk, .int ss, eV ee])) := fun b e => by
        rw [e]
        exact q _ e1
      refine ⟨p, _, rfl, sqT_of hp, rfl, .int kk, _, rfl, .int ss, _, rfl, eV ee, _, rfl, rfl, ?_⟩
      refine ⟨.int t, rfl, .int ss, rfl, t, ss, rfl, rfl, _, rfl, ite2 (fun c1 => ?_) (fun c1 => hv _ ?_)⟩
      · have c1' : ss ≤ t := of_decide_eq_true c1
        refine ⟨.int t, rfl, .int ss, rfl, t, ss, rfl, rfl, .inl ⟨t - ss, rfl, .int kk, rfl, t - ss, kk, rfl, rfl, (by show (0 : Int) < kk; omega), rfl, _, rfl, ite2 (fun c2 => ?_) (fun c2 => hv _ ?_)⟩⟩
        · rw [dec_int] at c2
          cases ee with
          | none =>
            refine ⟨.non, rfl, rfl, _, rfl, iteT (hv _ ?_)⟩
            rw [decide_eq_true c1', c2]
            rfl
          | some e =>
            refine ⟨.int e, rfl, rfl, _, rfl, iteF ⟨.int t, rfl, .int e, rfl, t, e, rfl, rfl, hv _ ?_⟩⟩
            rw [decide_eq_true c1', c2]
            rfl
        · rw [dec_int] at c2
          rw [eq_false_of_ne_true c2, Bool.and_false, Bool.false_and]
      · have c1' : ¬ ss ≤ t := fun z => c1 (decide_eq_true z)
        rw [decide_eq_false c1', Bool.false_and, Bool.false_and]
    | @list a b ts ha hb =>
      refine ⟨.ref a, rfl, a, _, 0, .str "list", rfl, rfl, sqT_of ha, atI_nat (j := 0) rfl, ?_⟩
      refine ⟨.str "list", rfl, rfl, _, rfl, ite2 (fun e => absurd (of_decide_eq_true e) (by decide)) (fun _ => ?_)⟩
      refine ⟨.str "list", rfl, rfl, _, rfl, ite2 (fun _ => ?_) (fun e => absurd (decide_eq_true rfl) e)⟩
      refine ⟨.int t, rfl, .ref a, rfl, a, _, 1, .ref b, rfl, rfl, sqT_of ha, atI_nat (j := 1) rfl, b, _, rfl, .inr (sqT_of hb), rfl, flat_ints ts, ?_⟩
      show Q (.bl (inV (.int t) (ts.map V.int))) H
      rw [inV_ints]
      exact q H Ext.refl
    | @moved a v1 c1 m ha hc1 =>
      cases d with
      | zero => exact gd.elim
      | succ d =>
        refine ⟨.ref a, rfl, a, _, 0, .str "moved", rfl, rfl, sqT_of ha, atI_nat (j := 0) rfl, ?_⟩
        refine ⟨.str "moved", rfl, rfl, _, rfl, ite2 (fun e => absurd (of_decide_eq_true e) (by decide)) (fun _ => ?_)⟩
        refine ⟨.str "moved", rfl, rfl, _, rfl, ite2 (fun e => absurd (of_decide_eq_true e) (by decide)) (fun _ => ?_)⟩
        refine ⟨.ref a, rfl, a, _, 1, v1, rfl, rfl, sqT_of ha, atI_nat (j := 1) rfl, .str "moved", rfl, rfl, _, rfl, ite2 (fun _ => ?_) (fun e => absurd (decide_eq_true rfl) e)⟩
        refine ⟨.int t, rfl, .ref a, rfl, a, _, 2, .int m, rfl, rfl, sqT_of ha, atI_nat (j := 2) rfl, t, m, rfl, rfl, v1, c1, t - m, d, rfl, hc1, gd.1, by omega, fun H1 e1 => ?_⟩
        exact ⟨.str "moved", rfl, rfl, _, rfl, iteT ⟨_, rfl, q H1 e1⟩⟩
    | @pair a o v1 v2 c1 c2 ha hc1 hc2 =>
      cases d with
      | zero => exact gd.elim
      | succ d =>
        refine ⟨.ref a, rfl, a, _, 0, .str (opS o), rfl, rfl, sqT_of ha, atI_nat (j := 0) rfl, ?_⟩
        refine ⟨.str (opS o), rfl, rfl, _, rfl, ite2 (fun e => absurd (of_decide_eq_true e) (by cases o <;> decide)) (fun _ => ?_)⟩
        refine ⟨.str (opS o), rfl, rfl, _, rfl, ite2 (fun e => absurd (of_decide_eq_true e) (by cases o <;> decide)) (fun _ => ?_)⟩
        refine ⟨.ref a, rfl, a, _, 1, v1, rfl, rfl, sqT_of ha, atI_nat (j := 1) rfl, .str (opS o), rfl, rfl, _, rfl, ite2 (fun e => absurd (of_decide_eq_true e) (by cases o <;> decide)) (fun _ => ?_)⟩
        refine ⟨.int t, rfl, v1, c1, t, d, rfl, hc1, gd.1, by omega, fun H1 e1 => ?_⟩
        refine ⟨.str (opS o), rfl, rfl, _, rfl, ite2 (fun e => absurd (of_decide_eq_true e) (by cases o <;> decide)) (fun _ => ?_)⟩
        refine ⟨.ref a, rfl, a, _, 2, v2, rfl, rfl, sqT_of (e1.tup _ _ ha), atI_nat (j := 2) rfl, .int t, rfl, v2, c2, t, d, rfl, hc2.ext e1, gd.2, by omega, fun H2 e2 => ?_⟩
        have q2 := q H2 (e1.trans e2)
        cases o with
        | both =>
          refine ⟨_, rfl, rfl, _, rfl, iteT ⟨_, rfl, _, rfl, ?_⟩⟩
          have q3 : Q (.bl (c1.has t || c2.has t)) H2 := q2
          cases h : c1.has t with
          | true => rw [h] at q3; exact iteT q3
          | false => rw [h] at q3; exact iteF ⟨_, rfl, q3⟩
        | common =>
          refine ⟨_, rfl, rfl, _, rfl, iteF ⟨_, rfl, rfl, _, rfl, iteT ⟨_, rfl, _, rfl, ?_⟩⟩⟩
          have q3 : Q (.bl (c1.has t && c2.has t)) H2 := q2
          cases h : c1.has t with
          | true => rw [h] at q3; exact iteT ⟨_, rfl, q3⟩
          | false => rw [h] at q3; exact iteF q3
        | without =>
          refine ⟨_, rfl, rfl, _, rfl, iteF ⟨_, rfl, rfl, _, rfl, iteF ⟨_, rfl, _, rfl, ?_⟩⟩⟩
          have q3 : Q (.bl (c1.has t && !c2.has t)) H2 := q2
          cases h : c1.has t with
          | true => rw [h] at q3; exact iteT ⟨_, rfl, _, rfl, q3⟩
          | false => rw [h] at q3; exact iteF q3
theorem ok_ltail {f : Addr} {fd : FuncData} {k n : Nat} (F : Fun K "_law_tail" "_law_tail" sLTail f fd) (mm : mg "max" = none)
    (GD : FnOk P w K mg base CX0 k f fd ["_law_calendar"] (spLTail n)) (gD : mg "_law_tail" = some (.ref f)) (bD : Binds K fd ["_law_calendar"] []) :
    FnOk P w K mg base CX0 (k + 1) f fd ["_law_calendar"] (spLTail (n + 1)) := by
  refine F.ok scLTail (fun vs H Q E h => ?_) (fun cdv A outer s H vs Q E hr h => ?_)
  · obtain ⟨v, c, d, rfl, _⟩ := h
    rfl
  · obtain ⟨v, c, d, rfl, hc, gd, hd, q⟩ := h
    have nd := scLTail.nd
    have kD := F.kp
    refine ⟨_, pss_cons (ps_if (pt_cmpR op_eq (pe_ix ix_tup (pv 0) pe_int (fun _ _ => rfl)) pe_str (nomark _))
        (pss_one (ps_ret (pe_ifExp (pt_cmpR op_isN (pe_ix ix_tup (pv 0) pe_int (fun _ _ => rfl)) pe_non (nomark _)) (pe_ix ix_tup (pv 0) pe_int (fun _ _ => rfl)) (pe_op op_add (pe_ix ix_tup (pv 0) pe_int (fun _ _ => rfl)) pe_int)))) pss_nil)
      (pss_cons (ps_if (pt_cmpR op_eq (pe_ix ix_tup (pv 0) pe_int (fun _ _ => rfl)) pe_str (nomark _))
        (pss_one (ps_ret (pe_op op_add (pe_callB (Y2.cr_maxTu rfl) (by rfl) mm b_max (pa_cons (pe_op op_catT (pe_tup (pa_cons (pe_op op_sub pe_int pe_int) pa_nil)) (pe_ix ix_tup (pv 0) pe_int (fun _ _ => rfl))) pa_nil)) pe_int))) pss_nil)
      (pss_cons (ps_if (pt_cmpR op_eq (pe_ix ix_tup (pv 0) pe_int (fun _ _ => rfl)) pe_str (nomark _))
        (pss_one (ps_ret (pe_op op_add (pe_call GD hr (by rfl) gD kD bD .nil pass0 (pa_cons (pe_ix ix_tup (pv 0) pe_int (fun _ _ => rfl)) pa_nil)) (pe_ix ix_tup (pv 0) pe_int (fun _ _ => rfl))))) pss_nil)
      (pss_one (ps_ret (pe_callB (call_max2 rfl) (by rfl) mm b_max (pa_cons (pe_call GD hr (by rfl) gD kD bD .nil pass0 (pa_cons (pe_ix ix_tup (pv 0) pe_int (fun _ _ => rfl)) pa_nil)) (pa_cons (pe_call GD hr (by rfl) gD kD bD .nil pass0 (pa_cons (pe_ix ix_tup (pv 0) pe_int (fun _ _ => rfl)) pa_nil)) pa_nil))))))), ?_⟩
    cases hc with
    | @every a kk ss ee ha =>
      refine ⟨.ref a, rfl, a, _, 0, .str "every", rfl, rfl, sqT_of ha, atI_nat (j := 0) rfl, rfl, _, rfl, ite2 (fun _ => ?_) (fun e => absurd (decide_eq_true rfl) e)⟩
      cases ee with
      | none => exact ⟨.ref a, rfl, a, _, 3, .non, rfl, rfl, sqT_of ha, atI_nat (j := 3) rfl, rfl, _, rfl, iteT ⟨.ref a, rfl, a, _, 2, .int ss, rfl, rfl, sqT_of ha, atI_nat (j := 2) rfl, q H Ext.refl⟩⟩
      | some e => exact ⟨.ref a, rfl, a, _, 3, .int e, rfl, rfl, sqT_of ha, atI_nat (j := 3) rfl, rfl, _, rfl, iteF ⟨.ref a, rfl, a, _, 3, .int e, rfl, rfl, sqT_of ha, atI_nat (j := 3) rfl, e, 1, rfl, rfl, q H Ext.refl⟩⟩
    | @list a b ts ha hb =>
      refine ⟨.ref a, rfl, a, _, 0, .str "list", rfl, rfl, sqT_of ha, atI_nat (j := 0) rfl, rfl, _, rfl, ite2 (fun e => absurd (of_decide_eq_true e) (by decide)) (fun _ => ?_)⟩
      refine ⟨.ref a, rfl, a, _, 0, .str "list", rfl, rfl, sqT_of ha, atI_nat (j := 0) rfl, rfl, _, rfl, ite2 (fun _ => ?_) (fun e => absurd (decide_eq_true rfl) e)⟩
      have gl : ts.length ≤ 10 := by cases d <;> exact gd.2
      refine ⟨0, 1, rfl, rfl, le1, fun p np => ?_⟩
      have e1 : Ex H (upd H p (.tup [.int (-1)])) := Ext.upd1 np
      have hp : upd H p (.tup [.int (-1)]) p = some (.tup [.int (-1)]) := upd_same
      refine ⟨.ref a, rfl, a, _, 1, .ref b, rfl, rfl, sqT_of (e1.tup _ _ ha), atI_nat (j := 1) rfl, p, b, _, _, rfl, rfl, sqT_of hp, sqT_of (e1.tup _ _ hb), (fun z => by cases z), few' (by rw [List.length_map, List.length_singleton]; omega), fun hnil => ?_, fun _ p2 np2 => ?_⟩
      · refine ⟨p, [-1], rfl, sqT_of hp, by decide, fun m h1 h2 => ⟨m, 1, rfl, rfl, ?_⟩⟩
        have hts : ts = [] := List.map_eq_nil_iff.mp hnil
        rw [maxL_is (ts := []) h1 h2]
        have q1 := q _ e1
        rw [hts] at q1
        exact q1
      · refine ⟨p2, -1 :: ts, rfl, sqT_of upd_same, Nat.succ_pos _, fun m h1 h2 => ⟨m, 1, rfl, rfl, ?_⟩⟩
        rw [maxL_is h1 h2]
        exact q _ (e1.trans (Ext.upd1 np2))
    | @moved a v1 c1 m ha hc1 =>
      cases d with
      | zero => exact gd.elim
      | succ d =>
        refine ⟨.ref a, rfl, a, _, 0, .str "moved", rfl, rfl, sqT_of ha, atI_nat (j := 0) rfl, rfl, _, rfl, ite2 (fun e => absurd (of_decide_eq_true e) (by decide)) (fun _ => ?_)⟩
        refine ⟨.ref a, rfl, a, _, 0, .str "moved", rfl, rfl, sqT_of ha, atI_nat (j := 0) rfl, rfl, _, rfl, ite2 (fun e => absurd (of_decide_eq_true e) (by decide)) (fun _ => ?_)⟩
        refine ⟨.ref a, rfl, a, _, 0, .str "moved", rfl, rfl, sqT_of ha, atI_nat (j := 0) rfl, rfl, _, rfl, ite2 (fun _ => ?_) (fun e => absurd (decide_eq_true rfl) e)⟩
        refine ⟨.ref a, rfl, a, _, 1, v1, rfl, rfl, sqT_of ha, atI_nat (j := 1) rfl, v1, c1, d, rfl, hc1, gd.1, by omega, fun H1 e1 => ?_⟩
        exact ⟨.ref a, rfl, a, _, 2, .int m, rfl, rfl, sqT_of (e1.tup _ _ ha), atI_nat (j := 2) rfl, tl c1, m, rfl, rfl, q H1 e1⟩
    | @pair a o v1 v2 c1 c2 ha hc1 hc2 =>
      cases d with
      | zero => exact gd.elim
      | succ d =>
        refine ⟨.ref a, rfl, a, _, 0, .str (opS o), rfl, rfl, sqT_of ha, atI_nat (j := 0) rfl, rfl, _, rfl, ite2 (fun e => absurd (of_decide_eq_true e) (by cases o <;> decide)) (fun _ => ?_)⟩
        refine ⟨.ref a, rfl, a, _, 0, .str (opS o), rfl, rfl, sqT_of ha, atI_nat (j := 0) rfl, rfl, _, rfl, ite2 (fun e => absurd (of_decide_eq_true e) (by cases o <;> decide)) (fun _ => ?_)⟩
        refine ⟨.ref a, rfl, a, _, 0, .str (opS o), rfl, rfl, sqT_of ha, atI_nat (j := 0) rfl, rfl, _, rfl, ite2 (fun e => absurd (of_decide_eq_true e) (by cases o <;> decide)) (fun _ => ?_)⟩
        refine ⟨.ref a, rfl, a, _, 1, v1, rfl, rfl, sqT_of ha, atI_nat (j := 1) rfl, v1, c1, d, rfl, hc1, gd.1, by omega, fun H1 e1 => ?_⟩
        refine ⟨.ref a, rfl, a, _, 2, v2, rfl, rfl, sqT_of (e1.tup _ _ ha), atI_nat (j := 2) rfl, v2, c2, d, rfl, hc2.ext e1, gd.2, by omega, fun H2 e2 => ?_⟩
        refine ⟨tl c1, tl c2, rfl, ?_⟩
        rw [max2]
        exact q H2 (e1.trans e2)
end
end Days
set_option Elab.async false
set_option linter.all false
set_option maxRecDepth 100000
set_option maxHeartbeats 4000000
/-! the plain form, looked for far and wide -/
namespace Cl
theorem first_of {α : Type} {p : Nat → Bool} {f : Nat → α} : ∀ {m : Nat}, (∃ j, j < m ∧ p j = true) → ∃ j, j < m ∧ p j = true ∧ (∀ i, i < j → p i = false) ∧ (((List.range m).filter p).map f)[0]? = some (f j)
  | 0, h => by
    obtain ⟨j, h, _⟩ := h
    omega
  | m + 1, h => by
    by_cases g : ∃ j, j < m ∧ p j = true
    · obtain ⟨j, h1, h2, h3, h4⟩ := first_of (f := f) g
      refine ⟨j, by omega, h2, h3, ?_⟩
      rw [List.range_succ, List.filter_append, List.map_append]
      cases e : ((List.range m).filter p).map f with
      | nil => rw [e] at h4; cases h4
      | cons x xs => rw [e] at h4; exact h4
    · obtain ⟨j, h1, h2⟩ := h
      have ej : j = m := by
        rcases Nat.lt_or_ge j m with z | z
        · exact absurd ⟨j, z, h2⟩ g
        · omega
      subst ej
      have none_ : ∀ i, i < j → p i = false := fun i hi => by
        cases e : p i with
        | false => rfl
        | true => exact absurd ⟨i, hi, e⟩ g
      refine ⟨j, by omega, h2, none_, ?_⟩
      rw [List.range_succ, List.filter_append, List.filter_eq_nil_iff.mpr fun i hi => by rw [none_ i (List.mem_range.mp hi)]; exact Bool.false_ne_true, List.nil_append, List.filter_cons_of_pos h2]
      rfl
/-- told alike by a period from lo on, N times -/
def pq (c : Cal) (lo : Int) (N : Nat) (q : Int) : Bool := ((List.range N).map fun j => decide (c.has (lo + (j : Nat)) = c.has (lo + (j : Nat) + q))).all id
theorem pq_iff {c : Cal} {lo : Int} {N : Nat} {q : Int} : pq c lo N q = true ↔ ∀ j : Nat, j < N → c.has (lo + (j : Nat)) = c.has (lo + (j : Nat) + q) := by
  unfold pq
  rw [List.all_map, List.all_eq_true]
  constructor
  · intro h j hj
    exact of_decide_eq_true (h j (List.mem_range.mpr hj))
  · intro h j hj
    exact decide_eq_true (h j (List.mem_range.mp hj))
/-- what is told alike over a whole period is told alike for ever -/
theorem per_of_pq {c : Cal} {n q : Int} {N : Nat} (hN : 1 ≤ N) (h : Per c n (N : Int)) (k : pq c n N q = true) (hq : 0 ≤ q) : Per c n q := by
  have near := pq_iff.mp k
  intro t ht
  have h3 : 0 ≤ (t - n) % (N : Int) := Int.emod_nonneg _ (by omega)
  have h4 : (t - n) % (N : Int) < N := Int.emod_lt_of_pos _ (by omega)
  have e1 := has_far (by omega) h ht
  have e2 : c.has (t + q) = c.has (n + (t - n) % (N : Int) + q) := by
    have h1 := Int.emod_add_mul_ediv (t - n) (N : Int)
    have h2 : 0 ≤ (t - n) / (N : Int) := Int.ediv_nonneg (by omega) (by omega)
    have m := h.mul (by omega) ((t - n) / (N : Int)).toNat (n + (t - n) % (N : Int) + q) (by omega)
    rw [← m]
    congr 1
    rw [show (((t - n) / (N : Int)).toNat : Int) = (t - n) / (N : Int) by omega, Int.mul_comm]
    omega
  rw [e1, e2]
  have g := near ((t - n) % (N : Int)).toNat (by omega)
  rw [show ((((t - n) % (N : Int)).toNat : Nat) : Int) = (t - n) % (N : Int) by omega] at g
  exact g.symm
theorem pq_of_per {c : Cal} {n q : Int} {N : Nat} (h : Per c n q) : pq c n N q = true := pq_iff.mpr fun j _ => (h _ (by omega)).symm
theorem rep_of {c : Cal} {n : Int} {a b : Nat} (n0 : 0 ≤ n) (h : Per c n 60) (ha : pq c n 60 (1 + (a : Nat)) = true) (la : ∀ i, i < a → pq c n 60 (1 + (i : Nat)) = false)
    (hb : b < (n + 1).toNat) (hb1 : pq c (b : Nat) (n - (b : Nat)).toNat (1 + (a : Nat)) = true) (lb : ∀ i, i < b → pq c (i : Nat) (n - (i : Nat)).toNat (1 + (a : Nat)) = false) : Rep c (b : Nat) (1 + (a : Nat)) := by
  have per : Per c n (1 + (a : Nat)) := per_of_pq (by decide) h ha (by omega)
  refine ⟨by omega, by omega, fun t ht => ?_, fun r h1 h2 m hm => ?_, fun hpos e => ?_⟩
  · by_cases z : t < n
    · have g := pq_iff.mp hb1 (t - (b : Nat)).toNat (by omega)
      rw [show (b : Int) + ((t - (b : Nat)).toNat : Nat) = t by omega] at g
      exact g.symm
    · exact per t (by omega)
  · have hr : Per c n r := Per.back (by decide) h hm (by omega)
    have g := la (r - 1).toNat (by omega)
    rw [show (1 : Int) + ((r - 1).toNat : Nat) = r by omega, pq_of_per hr] at g
    cases g
  · have g := lb (b - 1) (by omega)
    have g2 : pq c ((b - 1 : Nat) : Int) (n - ((b - 1 : Nat) : Int)).toNat (1 + (a : Nat)) = true := pq_iff.mpr fun j hj => by
      by_cases z : j = 0
      · subst z
        rw [show ((b - 1 : Nat) : Int) + ((0 : Nat) : Int) = (b : Nat) - 1 by omega]
        exact e.symm
      · have g3 := pq_iff.mp hb1 (j - 1) (by omega)
        rw [show (b : Int) + ((j - 1 : Nat) : Int) = ((b - 1 : Nat) : Int) + (j : Nat) by omega] at g3
        exact g3
    rw [g2] at g
    cases g
theorem early_eq (c : Cal) (n : Int) : ((List.range n.toNat).filter fun i => c.has (0 + (i : Nat))).map (fun i => (0 : Int) + (i : Nat)) = tms c 0 n := by
  unfold tms rng
  rw [List.filter_map, Int.sub_zero]
  rfl
theorem rests_eq (c : Cal) (n q : Int) : ((List.range q.toNat).filter fun i => c.has (n + (0 + (i : Nat)))).map (fun i => (0 : Int) + (i : Nat)) = (tms c n (n + q)).map fun t => t - n := by
  unfold tms rng
  rw [List.filter_map, List.map_map, show n + q - n = q by omega]
  have e : ((List.range q.toNat).filter fun i => c.has (n + (0 + (i : Nat)))) = (List.range q.toNat).filter (c.has ∘ fun i => n + (i : Nat)) := List.filter_congr fun i _ => by
    show c.has (n + (0 + (i : Nat))) = c.has (n + (i : Nat))
    rw [Int.zero_add]
  rw [e]
  refine List.map_congr_left fun i _ => ?_
  show (0 : Int) + (i : Nat) = n + (i : Nat) - n
  omega
end Cl
set_option Elab.async false
set_option linter.all false
set_option maxRecDepth 100000
set_option maxHeartbeats 4000000
namespace Days
open PySem PySem.Spec PyProof.Rows L2 Y3 Cl
abbrev nLPlain : List Str := ["_law_calendar", "_law_n", "_law_told", "_law_q", "_law_least", "_law_rests", "_law_time", "_law_k", "_law_j"]
theorem scLPlain : FnScope nLPlain ["_law_calendar"] (defScope sLPlain) := ⟨rfl, rfl, rfl, by decide +kernel, rfl, by decide +kernel, by decide +kernel⟩
def scQ : Scope := { kind := .function, names := [(".0", .local), ("_law_q", .cell), ("all", .globalImplicit), ("range", .globalImplicit), ("_law_n", .free), ("_law_told", .free)], isGenerator := false, isCoroutine := false }
def scJ : Scope := { kind := .function, names := [(".0", .local), ("_law_k", .local), ("all", .globalImplicit), ("range", .globalImplicit), ("_law_n", .free), ("_law_q", .free), ("_law_told", .free)], isGenerator := false, isCoroutine := false }
def teQ (K : PySem.W.Frag) (j : Nat) : TE := tOp rEq (tOp (rIxL K) (tVar 2) (tVar j)) (tOp (rIxL K) (tVar 2) (tOp (rI0 fun i j => V.int (i + j)) (tVar j) (tVar 3)))
def ttQ (K : PySem.W.Frag) : TT := tB (tCB (rAll K) (tCons (tLc (iRng2 (tCons (tVar 1) (tCons (tOp (rI0 fun i j => V.int (i + j)) (tVar 1) (tC (V.int 60))) tNil))) (gName 7) tYes (teQ K 7) [7]) tNil))
def ttJ (K : PySem.W.Frag) : TT := tB (tCB (rAll K) (tCons (tLc (iRng2 (tCons (tVar 7) (tCons (tVar 1) tNil))) (gName 8) tYes (teQ K 8) [8]) tNil))
def spLPlain (D : Nat) : Sp := fun vs H Q _ => ∃ (v : V) (c : Cal), vs = [v] ∧ CAt H v c ∧ Good D c ∧
  ∀ H' p a1 a2 n q, Ex H H' → H p = none → Rep c n q → H' p = some (.tup [.ref a1, .int n, .int q, .ref a2]) → H' a1 = some (.tup ((tms c 0 n).map V.int)) → H' a2 = some (.tup (((tms c n (n + q)).map fun t => t - n).map V.int)) → Q (.ref p) H'
theorem dec_bl (a b : Bool) : decide (V.bl a = V.bl b) = decide (a = b) := by
  by_cases e : a = b
  · subst e; simp
  · rw [decide_eq_false e, decide_eq_false fun z => e (V.bl.inj z)]
section
variable {P : Program} {w : World} {K : PySem.W.Frag} {mg : Str → Option Value} {base : Heap}
theorem ok_lplain {f fH fT : Addr} {fd fdH fdT : FuncData} {k D0 : Nat} (hD0 : D0 ≤ 3) (F : Fun K "_law_plain" "_law_plain" sLPlain f fd) (mr : mg "range" = none) (mt : mg "tuple" = none) (ma : mg "all" = none)
    (GH : FnOk P w K mg base CX0 k fH fdH ["_law_calendar", "_law_time"] (spLHas (D0 + 1))) (gH : mg "_law_has" = some (.ref fH)) (kH : PySem.W.keepIn K (.ref fH) = true) (bH : Binds K fdH ["_law_calendar", "_law_time"] [])
    (GT : FnOk P w K mg base CX0 k fT fdT ["_law_calendar"] (spLTail (D0 + 1))) (gT : mg "_law_tail" = some (.ref fT)) (kT : PySem.W.keepIn K (.ref fT) = true) (bT : Binds K fdT ["_law_calendar"] []) :
    FnOk P w K mg base CX0 (k + 1) f fd ["_law_calendar"] (spLPlain D0) := by
  refine F.ok scLPlain (fun vs H Q E h => ?_) (fun cdv A outer s H vs Q E hr h => ?_)
  · obtain ⟨v, c, rfl, _⟩ := h
    rfl
  · obtain ⟨v, c, rfl, hc, gd, fin⟩ := h
    have nd := scLPlain.nd
    refine ⟨_, pss_cons (ps_set (i := 1) nd rfl (.inr rfl) (pe_call GT hr (by rfl) gT kT bT .nil pass0 (pa_cons (pv 0) pa_nil)))
      (pss_cons (ps_set (i := 2) nd rfl (.inr rfl) (pe_lc (own := [("_law_time", 6)]) (g := gName 6) (tt := tYes) rfl nd (pi_range1 rfl mr (pa_cons (pe_op op_add (pv 1) pe_int) pa_nil)) (blkOk_by (N := nLPlain) (sc := defScope sLPlain) (by decide +kernel))
          (fun _ _ _ _ _ => pg_name (i := 6) nd rfl (.inl rfl)) (fun _ _ _ _ _ => pts_nil) (fun _ _ _ _ _ => pe_call GH hr (by rfl) gH kH bH .nil pass0 (pa_cons (pv 0) (pa_cons (pv 6) pa_nil)))))
      (pss_cons (ps_set (i := 3) nd rfl (.inr rfl) (pe_ix ix_list (pe_lc (own := [("_law_q", 3)]) (g := gName 3) (tt := ttQ K) rfl nd (pi_range2 (by rfl) mr (pa_cons pe_int (pa_cons pe_int pa_nil))) (blkOk_by (N := nLPlain) (sc := defScope sLPlain) (by decide +kernel))
          (fun _ _ _ _ _ => pg_name (i := 3) nd rfl (.inr rfl))
          (fun _ _ _ _ _ => pts_one (pt_val (pe_callB (cr_all rfl) (by rfl) ma b_all (pa_cons (pe_lc (own := [("_law_k", 7)]) (g := gName 7) (tt := tYes) (te := teQ K 7) rfl nd (pi_range2 (by rfl) mr (pa_cons (pv 1) (pa_cons (pe_op op_add (pv 1) pe_int) pa_nil))) (blkOk_by (N := nLPlain) (sc := relS scQ (defScope sLPlain)) (by decide +kernel))
            (fun _ _ _ _ _ => pg_name (i := 7) nd rfl (.inl rfl)) (fun _ _ _ _ _ => pts_nil) (fun _ _ _ _ _ => pe_cmpR op_eq (pe_ix ix_list (pv 2) (pv 7) (fun _ _ => rfl)) (pe_ix ix_list (pv 2) (pe_op op_add (pv 7) (pv 3)) (fun _ _ => rfl)) (nomark _))) pa_nil))))
          (fun _ _ _ _ _ => pv 3)) pe_int (fun _ _ => rfl)))
      (pss_cons (ps_set (i := 4) nd rfl (.inr rfl) (pe_ix ix_list (pe_lc (own := [("_law_k", 7)]) (g := gName 7) (tt := ttJ K) rfl nd (pi_range1 rfl mr (pa_cons (pe_op op_add (pv 1) pe_int) pa_nil)) (blkOk_by (N := nLPlain) (sc := defScope sLPlain) (by decide +kernel))
          (fun _ _ _ _ _ => pg_name (i := 7) nd rfl (.inl rfl))
          (fun _ _ _ _ _ => pts_one (pt_val (pe_callB (cr_all rfl) (by rfl) ma b_all (pa_cons (pe_lc (own := [("_law_j", 8)]) (g := gName 8) (tt := tYes) (te := teQ K 8) rfl nd (pi_range2 (by rfl) mr (pa_cons (pv 7) (pa_cons (pv 1) pa_nil))) (blkOk_by (N := nLPlain) (sc := relS scJ (defScope sLPlain)) (by decide +kernel))
            (fun _ _ _ _ _ => pg_name (i := 8) nd rfl (.inl rfl)) (fun _ _ _ _ _ => pts_nil) (fun _ _ _ _ _ => pe_cmpR op_eq (pe_ix ix_list (pv 2) (pv 8) (fun _ _ => rfl)) (pe_ix ix_list (pv 2) (pe_op op_add (pv 8) (pv 3)) (fun _ _ => rfl)) (nomark _))) pa_nil))))
          (fun _ _ _ _ _ => pv 7)) pe_int (fun _ _ => rfl)))
      (pss_cons (ps_set (i := 5) nd rfl (.inl rfl) (pe_callTy call_tuple_of (by rfl) mt b_tuple (pa_cons (pe_lc (own := [("_law_k", 7)]) (g := gName 7) (tt := tB (tOp (rIxL K) (tVar 2) (tOp (rI0 fun i j => V.int (i + j)) (tVar 4) (tVar 7)))) rfl nd (pi_range1 rfl mr (pa_cons (pv 3) pa_nil)) (blkOk_by (N := nLPlain) (sc := defScope sLPlain) (by decide +kernel))
          (fun _ _ _ _ _ => pg_name (i := 7) nd rfl (.inl rfl)) (fun _ _ _ _ _ => pts_one (pt_val (pe_ix ix_list (pv 2) (pe_op op_add (pv 4) (pv 7)) (fun _ _ => rfl)))) (fun _ _ _ _ _ => pv 7)) pa_nil)))
      (pss_one (ps_ret (pe_tup (pa_cons (pe_callTy call_tuple_of (by rfl) mt b_tuple (pa_cons (pe_lc (own := [("_law_k", 7)]) (g := gName 7) (tt := tB (tOp (rIxL K) (tVar 2) (tVar 7))) rfl nd (pi_range1 rfl mr (pa_cons (pv 4) pa_nil)) (blkOk_by (N := nLPlain) (sc := defScope sLPlain) (by decide +kernel))
          (fun _ _ _ _ _ => pg_name (i := 7) nd rfl (.inl rfl)) (fun _ _ _ _ _ => pts_one (pt_val (pe_ix ix_list (pv 2) (pv 7) (fun _ _ => rfl)))) (fun _ _ _ _ _ => pv 7)) pa_nil)) (pa_cons (pv 4) (pa_cons (pv 3) (pa_cons (pv 5) pa_nil))))))))))), ?_⟩
    obtain ⟨t0, t1⟩ := tl_b gd
    have per := per60 gd
    have t1 : tl c ≤ 51 := by omega
    refine ⟨v, rfl, v, c, D0, rfl, hc, gd, by omega, fun H1 e1 => ?_⟩
    generalize tl c = n at *
    -- told
    refine ⟨.int n, rfl, n, 120, rfl, rfl, n + 120, rfl, by omega, by omega, fun D nD => ?_⟩
    refine lcG (walk_range (lo := 0) (n := (n + 120).toNat)) (item := fun i => .int (0 + (i : Nat))) (fun _ => true) (fun i => .bl (c.has (0 + (i : Nat)))) nD (by omega) (fun i H x H' _ y => y) (fun _ _ => trivial) (fun i H2 Q _ _ h => tY h)
      (fun i H2 Q hi _ e h => ⟨v, rfl, .int (0 + (i : Nat)), rfl, v, c, 0 + (i : Nat), D0, rfl, (hc.ext e1).ext e, gd, by omega, fun H3 e3 => h H3 e3⟩) (fun H2 e2 hD => ?_)
    have hD2 : H2 D = some (.lst ((mks c 0 (n + 120)).map V.bl)) := by
      rw [hD, filt_true, ← mks_eq, Int.sub_zero]
    clear hD
    have test : ∀ (H3 : Hp), H3 D = some (.lst ((mks c 0 (n + 120)).map V.bl)) → ∀ t : Int, 0 ≤ t → t < n + 120 → ∃ p xs j y, (V.ref D : V) = .ref p ∧ (V.int t : V) = .int j ∧ SqL K H3 p xs ∧ atI xs j = some y ∧ y = V.bl (c.has t) := fun H3 h t h0 h1 => ⟨D, _, t, _, rfl, rfl, sqL_of h, mks_int c h0 h1, rfl⟩
    -- the least period
    refine ⟨1, 61, rfl, ⟨by decide, by decide, by decide, by decide⟩, fun D3 nD3 => ?_⟩
    refine lcG (walk_range (lo := 1) (n := 60)) (item := fun i => .int (1 + (i : Nat))) (fun i => pq c n 60 (1 + (i : Nat))) (fun i => .int (1 + (i : Nat))) nD3 (by omega) (fun i H x H' _ y => y) (fun _ _ => trivial) (fun i H3 Q hi e23 h => ?_)
      (fun i H2 Q hi _ e h => ⟨.int (1 + (i : Nat)), rfl, h H2 Ext.refl⟩) (fun H3 e23 hD3 => ?_)
    · refine ⟨.int n, rfl, .int n, rfl, n, 60, rfl, rfl, n, n + 60, rfl, ⟨by omega, by omega, by omega, by omega⟩, fun D4 nD4 => ?_⟩
      have e60 : (n + 60 - n).toNat = 60 := by omega
      rw [e60]
      refine lcG (walk_range (lo := n) (n := 60)) (item := fun j => .int (n + (j : Nat))) (fun _ => true) (fun j => .bl (decide (c.has (n + (j : Nat)) = c.has (n + (j : Nat) + (1 + (i : Nat)))))) nD4 (by omega) (fun i H x H' _ y => y) (fun _ _ => trivial) (fun i H2 Q _ _ h => tY h)
        (fun j H4 Q hj _ e34 h => ?_) (fun H4 e34 hD4 => ?_)
      · have hD4 := (e23.trans e34).lst not0 hD2
        refine ⟨.ref D, rfl, .int (n + (j : Nat)), rfl, D, _, _, _, rfl, rfl, sqL_of hD4, mks_int c (by omega) (by omega), .ref D, rfl, .int (n + (j : Nat)), rfl, .int (1 + (i : Nat)), rfl, n + (j : Nat), 1 + (i : Nat), rfl, rfl, D, _, _, _, rfl, rfl, sqL_of hD4, mks_int c (by omega) (by omega), rfl, ?_⟩
        rw [dec_bl]
        exact h H4 Ext.refl
      · rw [filt_true] at hD4
        refine ⟨D4, (List.range 60).map fun j => decide (c.has (n + (j : Nat)) = c.has (n + (j : Nat) + (1 + (i : Nat)))), rfl, sqL_of (by rw [hD4, List.map_map]; rfl), _, rfl, h H4 e34⟩
    have ex1 : ∃ j, j < 60 ∧ pq c n 60 (1 + (j : Nat)) = true := ⟨59, by decide, pq_of_per per⟩
    obtain ⟨a, a1, a2, a3, a4⟩ := first_of (f := fun i => V.int (1 + (i : Nat))) ex1
    refine ⟨D3, _, 0, .int (1 + (a : Nat)), rfl, rfl, sqL_of hD3, atI_nat (j := 0) a4, ?_⟩
    clear hD3
    have hDq3 := e23.lst not0 hD2
    -- where it begins
    refine ⟨.int n, rfl, n, 1, rfl, rfl, n + 1, rfl, by omega, by omega, fun D5 nD5 => ?_⟩
    refine lcG (walk_range (lo := 0) (n := (n + 1).toNat)) (item := fun i => .int (0 + (i : Nat))) (fun i => pq c (i : Nat) (n - (i : Nat)).toNat (1 + (a : Nat))) (fun i => .int (0 + (i : Nat))) nD5 (by omega) (fun i H x H' _ y => y) (fun _ _ => trivial) (fun i H4 Q hi e34 h => ?_)
      (fun i H2 Q hi _ e h => ⟨.int (0 + (i : Nat)), rfl, h H2 Ext.refl⟩) (fun H4 e34 hD5 => ?_)
    · refine ⟨.int (0 + (i : Nat)), rfl, .int n, rfl, 0 + (i : Nat), n, rfl, ⟨by omega, by omega, by omega, by omega⟩, fun D6 nD6 => ?_⟩
      rw [Int.zero_add]
      refine lcG (walk_range (lo := (i : Nat)) (n := (n - (i : Nat)).toNat)) (item := fun j => .int ((i : Nat) + (j : Nat))) (fun _ => true) (fun j => .bl (decide (c.has ((i : Nat) + (j : Nat)) = c.has ((i : Nat) + (j : Nat) + (1 + (a : Nat)))))) nD6 (by omega) (fun i H x H' _ y => y) (fun _ _ => trivial) (fun i H2 Q _ _ h => tY h)
        (fun j H5 Q hj _ e45 h => ?_) (fun H5 e45 hD6 => ?_)
      · have hD5 := (e34.trans e45).lst not0 hDq3
        refine ⟨.ref D, rfl, .int ((i : Nat) + (j : Nat)), rfl, D, _, _, _, rfl, rfl, sqL_of hD5, mks_int c (by omega) (by omega), .ref D, rfl, .int ((i : Nat) + (j : Nat)), rfl, .int (1 + (a : Nat)), rfl, (i : Nat) + (j : Nat), 1 + (a : Nat), rfl, rfl, D, _, _, _, rfl, rfl, sqL_of hD5, mks_int c (by omega) (by omega), rfl, ?_⟩
        rw [dec_bl]
        exact h H5 Ext.refl
      · rw [filt_true] at hD6
        refine ⟨D6, (List.range (n - (i : Nat)).toNat).map fun j => decide (c.has ((i : Nat) + (j : Nat)) = c.has ((i : Nat) + (j : Nat) + (1 + (a : Nat)))), rfl, sqL_of (by rw [hD6, List.map_map]; rfl), _, rfl, h H5 e45⟩
    have ex2 : ∃ j, j < (n + 1).toNat ∧ pq c (j : Nat) (n - (j : Nat)).toNat (1 + (a : Nat)) = true := ⟨n.toNat, by omega, pq_iff.mpr fun j hj => by omega⟩
    obtain ⟨b, b1, b2, b3, b4⟩ := first_of (f := fun i => V.int (0 + (i : Nat))) ex2
    refine ⟨D5, _, 0, .int (0 + (b : Nat)), rfl, rfl, sqL_of hD5, atI_nat (j := 0) b4, ?_⟩
    rw [Int.zero_add]
    clear hD5
    have rep := rep_of t0 per a2 a3 b1 b2 b3
    have hDq4 := e34.lst not0 hDq3
    -- the rests
    refine ⟨.int (1 + (a : Nat)), rfl, 1 + (a : Nat), rfl, by omega, by omega, fun D7 nD7 => ?_⟩
    refine lcG (walk_range (lo := 0) (n := (1 + (a : Nat) : Int).toNat)) (item := fun i => .int (0 + (i : Nat))) (fun i => c.has ((b : Nat) + (0 + (i : Nat)))) (fun i => .int (0 + (i : Nat))) nD7 (by omega) (fun i H x H' _ y => y) (fun _ _ => trivial) (fun i H5 Q hi e45 h => ?_)
      (fun i H2 Q hi _ e h => ⟨.int (0 + (i : Nat)), rfl, h H2 Ext.refl⟩) (fun H5 e45 hD7 => ?_)
    · exact ⟨.ref D, rfl, .int (b : Nat), rfl, .int (0 + (i : Nat)), rfl, (b : Nat), 0 + (i : Nat), rfl, rfl, D, _, _, _, rfl, rfl, sqL_of (e45.lst not0 hDq4), mks_int c (by omega) (by omega), _, rfl, h H5 Ext.refl⟩
    refine ⟨D7, _, rfl, .inl ⟨sqL_of hD7, fun T1 nT1 => ?_⟩⟩
    have r1 : ((List.range (1 + (a : Nat) : Int).toNat).filter fun i => c.has ((b : Nat) + (0 + (i : Nat)))).map (fun i => V.int (0 + (i : Nat))) = ((tms c (b : Nat) ((b : Nat) + (1 + (a : Nat)))).map fun t : Int => t - (b : Nat)).map V.int := by
      rw [← rests_eq, List.map_map]
      rfl
    rw [r1] at *
    have e56 : Ex H5 (upd H5 T1 (.tup (((tms c (b : Nat) ((b : Nat) + (1 + (a : Nat)))).map fun t : Int => t - (b : Nat)).map V.int))) := Ext.upd1 nT1
    have hT1 : upd H5 T1 (.tup (((tms c (b : Nat) ((b : Nat) + (1 + (a : Nat)))).map fun t : Int => t - (b : Nat)).map V.int)) T1 = some (.tup (((tms c (b : Nat) ((b : Nat) + (1 + (a : Nat)))).map fun t : Int => t - (b : Nat)).map V.int)) := upd_same
    generalize upd H5 T1 (.tup (((tms c (b : Nat) ((b : Nat) + (1 + (a : Nat)))).map fun t : Int => t - (b : Nat)).map V.int)) = H6 at *
    have hDq6 := (e45.trans e56).lst not0 hDq4
    -- the early ones
    refine ⟨.int (b : Nat), rfl, (b : Nat), rfl, by omega, by omega, fun D8 nD8 => ?_⟩
    refine lcG (walk_range (lo := 0) (n := ((b : Nat) : Int).toNat)) (item := fun i => .int (0 + (i : Nat))) (fun i => c.has (0 + (i : Nat))) (fun i => .int (0 + (i : Nat))) nD8 (by omega) (fun i H x H' _ y => y) (fun _ _ => trivial) (fun i H7 Q hi e67 h => ?_)
      (fun i H2 Q hi _ e h => ⟨.int (0 + (i : Nat)), rfl, h H2 Ext.refl⟩) (fun H7 e67 hD8 => ?_)
    · exact ⟨.ref D, rfl, .int (0 + (i : Nat)), rfl, D, _, _, _, rfl, rfl, sqL_of (e67.lst not0 hDq6), mks_int c (by omega) (by omega), _, rfl, h H7 Ext.refl⟩
    refine ⟨D8, _, rfl, .inl ⟨sqL_of hD8, fun T2 nT2 => ?_⟩⟩
    have r2 : ((List.range ((b : Nat) : Int).toNat).filter fun i => c.has (0 + (i : Nat))).map (fun i => V.int (0 + (i : Nat))) = (tms c 0 (b : Nat)).map V.int := by
      rw [← early_eq, List.map_map]
      rfl
    rw [r2] at *
    have e78 : Ex H7 (upd H7 T2 (.tup ((tms c 0 (b : Nat)).map V.int))) := Ext.upd1 nT2
    have hT2 : upd H7 T2 (.tup ((tms c 0 (b : Nat)).map V.int)) T2 = some (.tup ((tms c 0 (b : Nat)).map V.int)) := upd_same
    generalize upd H7 T2 (.tup ((tms c 0 (b : Nat)).map V.int)) = H8 at *
    refine ⟨.int (b : Nat), rfl, .int (1 + (a : Nat)), rfl, .ref T1, rfl, le4, fun r nr => ?_⟩
    have e89 : Ex H8 (upd H8 r (.tup [.ref T2, .int (b : Nat), .int (1 + (a : Nat)), .ref T1])) := Ext.upd1 nr
    have e18 := ((((((e1.trans e2).trans e23).trans e34).trans e45).trans e56).trans e67).trans e78
    exact fin _ r T2 T1 _ _ (e18.trans e89) (e18.fre r nr) rep upd_same (e89.tup _ _ hT2) (e89.tup _ _ ((e67.trans e78).tup _ _ hT1))
end
end Days
set_option Elab.async false
set_option linter.all false
set_option maxRecDepth 100000
set_option maxHeartbeats 8000000
namespace Days
open PySem PySem.Spec PyProof.Rows L2 Y3 Cl
abbrev nLaw : List Str := ["_law_script", "_law_source", "_law_lap", "_law_one", "_law_high", "_law_time", "_law_due", "_law_found", "_law_turn", "_law_cuts", "_law_parts", "_law_low", "_law_late", "_law_early", "_law_n", "_law_q", "_law_rests", "_law_own", "_law_is_told", "_law_later", "_law_t"]
theorem scLaw : FnScope nLaw ["_law_script"] (defScope sLaw) := ⟨rfl, rfl, rfl, by decide +kernel, rfl, by decide +kernel, by decide +kernel⟩
def spLaw (K : PySem.W.Frag) (P0 P1 : Addr) : Sp := fun vs H Q _ => ∃ (a : Addr) (ns : List Int), vs = [.ref a] ∧ SqL K H a (ns.map V.int) ∧ ns.length ≤ 63 ∧ GxR.TabG H P0 ∧ GxR.TabG H P1 ∧ ∀ H', Q (.bl true) H'
theorem tms_list (c : Cal) (lo hi : Int) : ((List.range (hi - lo).toNat).filter fun i => c.has (lo + (i : Nat))).map (fun i => V.int (lo + (i : Nat))) = (tms c lo hi).map V.int := by
  unfold tms rng
  rw [List.filter_map, List.map_map]
  rfl
theorem eqv_ints (ns : List Int) : PyData.eqv (.list (ns.map PyData.int)) (.list (ns.map PyData.int)) = true := by
  rw [PyData.eqv, eqvI]
  exact decide_eq_true rfl
theorem eqv_intsT (ns : List Int) : PyData.eqv (.tuple (ns.map PyData.int)) (.tuple (ns.map PyData.int)) = true := by
  rw [PyData.eqv, eqvI]
  exact decide_eq_true rfl
theorem eqv_plain (e r : List Int) (n q : Int) : PyData.eqv (.tuple [.tuple (e.map PyData.int), .int n, .int q, .tuple (r.map PyData.int)]) (.tuple [.tuple (e.map PyData.int), .int n, .int q, .tuple (r.map PyData.int)]) = true := by
  simp [PyData.eqv, PyData.eqvAll, eqvI]
theorem sh_plain (e r : List Int) (n q : Int) : SeqAt.shaped (.tuple [.tuple (e.map PyData.int), .int n, .int q, .tuple (r.map PyData.int)]) = true := by
  simp [SeqAt.shaped, PyData.canLay0, PyData.canLayAll0, PyData.depth, PyData.depthAll, PySem.W.ke_canLayAll0, PySem.W.ke_depthAll]
theorem eqv_nil (ns : List Int) : PyData.eqv (.list (ns.map PyData.int)) (.list (([] : List Int).map PyData.int)) = ns.isEmpty := by
  rw [PyData.eqv, eqvI]
  cases ns <;> simp
theorem head_eq {c : Cal} {t W : Int} {x : Option Int} (hx : IsNx c t x) (hw : IsNx c t (tms c t W).head?) : x = (tms c t W).head? := hx.uniq hw
/-- told by the plain form -/
theorem told_early {c : Cal} {n t : Int} (h0 : 0 ≤ t) (h : t < n) : decide (t ∈ tms c 0 n) = c.has t := by
  cases e : c.has t with
  | true => exact decide_eq_true (mem_tms.mpr ⟨⟨h0, h⟩, e⟩)
  | false => exact decide_eq_false fun z => by rw [(mem_tms.mp z).2] at e; cases e
theorem told_rests {c : Cal} {n q t : Int} (hr : Rep c n q) (h : n ≤ t) : decide ((t - n) % q ∈ (tms c n (n + q)).map fun u => u - n) = c.has t := by
  have q1 := hr.q1
  have h3 : 0 ≤ (t - n) % q := Int.emod_nonneg _ (by omega)
  have h4 : (t - n) % q < q := Int.emod_lt_of_pos _ (by omega)
  rw [has_far hr.q1 hr.per h]
  cases e : c.has (n + (t - n) % q) with
  | true => exact decide_eq_true (List.mem_map.mpr ⟨n + (t - n) % q, mem_tms.mpr ⟨⟨by omega, by omega⟩, e⟩, by omega⟩)
  | false =>
    exact decide_eq_false fun z => by
      obtain ⟨u, hu, e2⟩ := List.mem_map.mp z
      have hu2 := (mem_tms.mp hu).2
      rw [show u = n + (t - n) % q by omega, e] at hu2
      cases hu2
end Days
set_option Elab.async false
set_option linter.all false
set_option maxRecDepth 100000
set_option maxHeartbeats 4000000
/-! enumerate over a zip of two lists -/
namespace ZE
open PySem PySem.Spec PyProof.Rows L2
/-- a zip; f0: what it last handed out, as far as it knows -/
abbrev Zs (h : Heap) (z TI TO : Addr) (f0 fl : Value) : Prop :=
  h.get? z = some { cls := .type "zip", dict := none, data := .fields #[f0, fl, .bool false, .ref TI, .ref TO], slots := #[] }
section
variable {prog : Program} {w : World} {A : Around} {E : Value → Shared → Prop} {s : Shared}
theorem alive_no {a : Addr} {Q : Option Obj → Shared → Prop} (ho : s.heap.get? a = none) (h : Q none s) : wpAny (model prog w) A (loadIfAlive a) Q E s := by
  have h' : Q (s.heap.get? a) s := by rw [ho]; exact h
  exact fun _ _ _ => h'
/-- nothing is handed out, or what was is gone -/
def Free0 (h : Heap) (f0 : Value) : Prop := f0 = .none ∨ ∃ T : Addr, f0 = rawInt T ∧ h.get? T = none
theorem isFree {z TI TO : Addr} {f0 fl : Value} {Q : Bool → Shared → Prop} (hz : Zs s.heap z TI TO f0 fl) (hf : Free0 s.heap f0) (q : Q true s) : wpAny (model prog w) A (Builtin.SmallTypes.ownedTupleIsFree (.ref z)) Q E s := by
  unfold Builtin.SmallTypes.ownedTupleIsFree
  rcases hf with rfl | ⟨T, rfl, hT⟩
  · exact wpAny_bind (wpAny_field hz rfl (x := .none) rfl (wpAny_pure q))
  · refine wpAny_bind (wpAny_field hz rfl (x := rawInt T) rfl ?_)
    show wpAny _ _ (loadIfAlive ((T : Int).toNat) >>= _) _ _ _
    rw [Int.toNat_natCast]
    refine wpAny_bind (alive_no hT ?_)
    simp only [Option.isNone_none, if_true]
    exact wpAny_pure q
theorem next_free {z TI TO i1 i2 l1 l2 : Addr} {f0 fl : Value} {k1 k2 : Nat} {xs ys : Array Value} {x y a b : Value} {Q : Value → Shared → Prop} (D : ZipApart z TI TO i1 i2 l1 l2)
    (hz : Zs s.heap z TI TO f0 fl) (hf : Free0 s.heap f0) (hTI : IsPair s.heap TI (.ref i1) (.ref i2)) (hTO : IsPair s.heap TO a b)
    (q1 : s.heap.IsListIter i1 l1 k1) (q2 : s.heap.IsListIter i2 l2 k2) (hl1 : s.heap.IsList l1 xs) (hl2 : s.heap.IsList l2 ys) (hx : xs[k1]? = some x) (hy : ys[k2]? = some y)
    (fin : ∀ h', Zs h' z TI TO (rawInt s.heap.objs.size) (.bool false) → IsPair h' TO x y → h'.IsListIter i1 l1 (k1 + 1) → h'.IsListIter i2 l2 (k2 + 1) → IsPair h' s.heap.objs.size x y → h'.objs.size = s.heap.objs.size + 1 →
      (∀ c o, c ≠ z → c ≠ TO → c ≠ i1 → c ≠ i2 → s.heap.get? c = some o → h'.get? c = some o) → Q (.ref s.heap.objs.size) { s with heap := h' }) :
    wpAny (model prog w) A (Builtin.«zip.__next__» ⟨[.ref z], []⟩) (fun r s' => ∃ v, r = .done (.ret v) ∧ Q v s') E s := by
  show wpAny _ _ (field (.ref z) 2 >>= _) _ _ _
  refine wpAny_bind (wpAny_field hz rfl (x := .bool false) rfl ?_)
  show wpAny _ _ (field (.ref z) 3 >>= _) _ _ _
  refine wpAny_bind (wpAny_field hz rfl (x := .ref TI) rfl ?_)
  refine wpAny_bind (wpAny_seqItems hTI rfl ?_)
  show wpAny _ _ (Builtin.SmallTypes.ownedTupleIsFree (.ref z) >>= _) _ _ _
  refine wpAny_bind (isFree hz hf ?_)
  simp only [if_true]
  refine wpAny_bind (wpAny_rule ?_)
  refine wpAny_bind (wpAny_field hz rfl (x := .ref TO) rfl ?_)
  refine wpAny_bind (wpAny_setField_rec hz (by simp) fun g1 z1 b1 => ?_)
  replace z1 : Zs g1 z TI TO .ellipsis fl := z1
  refine wpAny_bind ?_
  simp only [List.zipIdx_cons, List.zipIdx_nil, List.forIn_cons, List.forIn_nil]
  refine wpAny_bind (wpAny_bind (wpAny_onRaise ?_))
  show wpAny _ _ (Builtin.SmallTypes.nextOf (.ref i1) >>= _) _ _ _
  refine wpAny_bind (wpAny_nextOf_list_item (q1.extBut b1.extBut D.i1z) (hl1.extBut b1.extBut D.l1z) hx fun g2 w1 b2 => wpAny_pure ?_)
  have t2 : IsPair g2 TO a b := b2.extBut _ _ D.TOi1 (b1.extBut _ _ D.TOz hTO)
  refine wpAny_bind (wpAny_seqItems t2 rfl ?_)
  refine wpAny_bind (wpAny_updateSeq_pair t2 fun g3 t3 b3 => ?_)
  replace t3 : IsPair g3 TO x b := t3
  refine wpAny_bind (wpAny_letGo (wpAny_pure ?_))
  refine wpAny_bind (wpAny_bind (wpAny_onRaise ?_))
  show wpAny _ _ (Builtin.SmallTypes.nextOf (.ref i2) >>= _) _ _ _
  refine wpAny_bind (wpAny_nextOf_list_item (((q2.extBut b1.extBut D.i2z).extBut b2.extBut D.i12.symm).extBut b3.extBut D.TOi2.symm)
    (((hl2.extBut b1.extBut D.l2z).extBut b2.extBut D.l2i1).extBut b3.extBut D.l2TO) hy fun g4 w2 b4 => wpAny_pure ?_)
  have t4 : IsPair g4 TO x b := b4.extBut _ _ D.TOi2 t3
  refine wpAny_bind (wpAny_seqItems t4 rfl ?_)
  refine wpAny_bind (wpAny_updateSeq_pair t4 fun g5 t5 b5 => ?_)
  replace t5 : IsPair g5 TO x y := t5
  refine wpAny_bind (wpAny_letGo (wpAny_pure (wpAny_pure ?_)))
  refine wpAny_bind (wpAny_seqItems t5 rfl ?_)
  refine wpAny_bind (wpAny_newTuple ?_)
  have sz : g5.objs.size = s.heap.objs.size := by rw [b5.1, b4.1, b3.1, b2.1, b1.1]
  have z5 : Zs g5 z TI TO .ellipsis fl := b5.extBut _ _ D.TOz.symm (b4.extBut _ _ D.i2z.symm (b3.extBut _ _ D.TOz.symm (b2.extBut _ _ D.i1z.symm z1)))
  have kp : ∀ c o, c ≠ z → c ≠ TO → c ≠ i1 → c ≠ i2 → s.heap.get? c = some o → g5.get? c = some o := fun c o c1 c2 c3 c4 e =>
    b5.extBut _ _ c2 (b4.extBut _ _ c4 (b3.extBut _ _ c2 (b2.extBut _ _ c3 (b1.extBut _ _ c1 e))))
  have w15 : g5.IsListIter i1 l1 (k1 + 1) := ((w1.extBut b3.extBut D.TOi1.symm).extBut b4.extBut D.i12).extBut b5.extBut D.TOi1.symm
  have w25 : g5.IsListIter i2 l2 (k2 + 1) := w2.extBut b5.extBut D.TOi2.symm
  have zlt : z < g5.objs.size := Heap.lt_size z5
  show wpAny _ _ (Builtin.SmallTypes.ownedTupleHandOut (.ref z) (.ref g5.objs.size) >>= _) _ _ _
  refine wpAny_bind ?_
  unfold Builtin.SmallTypes.ownedTupleHandOut
  have z6 : Zs (g5.push { cls := .type "tuple", data := .seq #[x, y] }) z TI TO .ellipsis fl := Heap.get?_push_of_some _ z5
  refine wpAny_bind (wpAny_setField_rec z6 (by simp) fun g7 z7 b7 => ?_)
  replace z7 : Zs g7 z TI TO (rawInt g5.objs.size) fl := z7
  refine wpAny_setField_rec z7 (by simp) fun g8 z8 b8 => ?_
  replace z8 : Zs g8 z TI TO (rawInt g5.objs.size) (.bool false) := z8
  have up : ∀ c o, c ≠ z → g5.get? c = some o → g8.get? c = some o := fun c o c1 e => b8.extBut _ _ c1 (b7.extBut _ _ c1 (Heap.get?_push_of_some _ e))
  have t8 : IsPair g8 g5.objs.size x y := b8.extBut _ _ (Nat.ne_of_gt zlt) (b7.extBut _ _ (Nat.ne_of_gt zlt) (Heap.get?_push_size _ rfl))
  have s8 : g8.objs.size = g5.objs.size + 1 := by rw [b8.1, b7.1, Heap.size_push]
  rw [sz] at z8 t8 s8
  refine wpAny_pure ⟨_, rfl, ?_⟩
  show Q (.ref g5.objs.size) _
  rw [sz]
  exact fin g8 z8 (up _ _ D.TOz t5) (w15.at fun o e => up _ o D.i1z e) (w25.at fun o e => up _ o D.i2z e) t8 s8 fun c o c1 c2 c3 c4 e => up c o c1 (kp c o c1 c2 c3 c4 e)
theorem end_free {z TI TO i1 i2 l1 l2 : Addr} {f0 fl : Value} {k1 k2 : Nat} {xs ys : Array Value} {a b : Value} {Q : Fin → Shared → Prop} (hh : A.handled = none) (D : ZipApart z TI TO i1 i2 l1 l2)
    (hz : Zs s.heap z TI TO f0 fl) (hf : Free0 s.heap f0) (hTI : IsPair s.heap TI (.ref i1) (.ref i2)) (hTO : IsPair s.heap TO a b)
    (q1 : s.heap.IsListIter i1 l1 k1) (q2 : s.heap.IsListIter i2 l2 k2) (hl1 : s.heap.IsList l1 xs) (hl2 : s.heap.IsList l2 ys) (hx : xs[k1]? = none)
    (fin : ∀ h' e, (∀ c o, c ≠ z → c ≠ TO → c ≠ i1 → c ≠ i2 → s.heap.get? c = some o → h'.get? c = some o) → (∃ o, h'.get? e = some o ∧ o.cls = .type "StopIteration") → E (.ref e) { s with heap := h' }) :
    wpAny (model prog w) A (Builtin.«zip.__next__» ⟨[.ref z], []⟩) Q E s := by
  show wpAny _ _ (field (.ref z) 2 >>= _) _ _ _
  refine wpAny_bind (wpAny_field hz rfl (x := .bool false) rfl ?_)
  show wpAny _ _ (field (.ref z) 3 >>= _) _ _ _
  refine wpAny_bind (wpAny_field hz rfl (x := .ref TI) rfl ?_)
  refine wpAny_bind (wpAny_seqItems hTI rfl ?_)
  show wpAny _ _ (Builtin.SmallTypes.ownedTupleIsFree (.ref z) >>= _) _ _ _
  refine wpAny_bind (isFree hz hf ?_)
  simp only [if_true]
  refine wpAny_bind (wpAny_rule ?_)
  refine wpAny_bind (wpAny_field hz rfl (x := .ref TO) rfl ?_)
  refine wpAny_bind (wpAny_setField_rec hz (by simp) fun g1 z1 b1 => ?_)
  replace z1 : Zs g1 z TI TO .ellipsis fl := z1
  refine wpAny_bind ?_
  simp only [List.zipIdx_cons, List.zipIdx_nil, List.forIn_cons, List.forIn_nil]
  refine wpAny_bind (wpAny_bind (wpAny_onRaise ?_))
  show wpAny _ _ (Builtin.SmallTypes.nextOf (.ref i1) >>= _) _ _ _
  refine wpAny_bind (wpAny_nextOf_list_end hh (q1.extBut b1.extBut D.i1z) (hl1.extBut b1.extBut D.l1z) hx fun g2 e b2 he => ?_)
  obtain ⟨oe, e1, e2⟩ := he
  have z2 : Zs g2 z TI TO .ellipsis fl := b2 _ _ D.i1z.symm z1
  have ez : e ≠ z := fun x => by subst x; rw [z2] at e1; cases e1; simp at e2
  exact wpAny_setField_rec z2 (by simp) fun g3 _ b3 => fin g3 e (fun c o c1 _ c3 _ x => b3.extBut _ _ c1 (b2 _ _ c3 (b1.extBut _ _ c1 x))) ⟨oe, b3.extBut _ _ ez e1, e2⟩
end
end ZE
set_option Elab.async false
set_option linter.all false
set_option maxRecDepth 100000
set_option maxHeartbeats 4000000
namespace ZE
open PySem PySem.Spec PyProof.Rows L2
def Zst (h : Heap) (z TI TO : Addr) : Prop := ∃ f0 fl, Zs h z TI TO f0 fl ∧ (f0 = .none ∨ ∃ (T : Addr) (f : Bool), f0 = rawInt T ∧ fl = .bool f)
theorem Zst.at' {h h' : Heap} {z TI TO : Addr} (st : Zst h z TI TO) (k : ∀ o, h.get? z = some o → h'.get? z = some o) : Zst h' z TI TO := by
  obtain ⟨f0, fl, a, b⟩ := st
  exact ⟨f0, fl, k _ a, b⟩
section
variable {prog : Program} {w : World} {A : Around} {E : Value → Shared → Prop} {s : Shared}
theorem zip_nextOf {z TI TO i1 i2 l1 l2 : Addr} {k1 k2 : Nat} {xs ys : Array Value} {x y a b : Value} {Q : Value → Shared → Prop} (D : ZipApart z TI TO i1 i2 l1 l2)
    (hz : Zst s.heap z TI TO) (hTI : IsPair s.heap TI (.ref i1) (.ref i2)) (hTO : IsPair s.heap TO a b)
    (q1 : s.heap.IsListIter i1 l1 k1) (q2 : s.heap.IsListIter i2 l2 k2) (hl1 : s.heap.IsList l1 xs) (hl2 : s.heap.IsList l2 ys) (hx : xs[k1]? = some x) (hy : ys[k2]? = some y)
    (fin : ∀ h', Zst h' z TI TO → (∃ a b, IsPair h' TO a b) → h'.IsListIter i1 l1 (k1 + 1) → h'.IsListIter i2 l2 (k2 + 1) → IsPair h' s.heap.objs.size x y → h'.objs.size = s.heap.objs.size + 1 →
      (∀ c o, c ≠ z → c ≠ TO → c ≠ i1 → c ≠ i2 → s.heap.get? c = some o → h'.get? c = some o) → Q (.ref s.heap.objs.size) { s with heap := h' }) :
    wpAny (model prog w) A (Builtin.SmallTypes.nextOf (.ref z)) Q E s := by
  obtain ⟨f0, fl, hz, hf⟩ := hz
  have ty : s.TypeIs (.ref z) "zip" := ⟨_, hz, rfl⟩
  unfold Builtin.SmallTypes.nextOf
  refine wpAny_bind (wpAny_callSpecial?_slot (name := Str.ofString "__next__") ty F.slot_zip_next (wpAny_call_entry F.slot_zip_next ty F.entry_zip_next ?_ (F.args_zip_next_1 _)))
  rcases hf with rfl | ⟨T, f, rfl, rfl⟩
  · exact next_free D hz (.inl rfl) hTI hTO q1 q2 hl1 hl2 hx hy fun h' a1 a2 a3 a4 a5 a6 a7 => wpAny_pure (fin h' ⟨_, _, a1, .inr ⟨_, _, rfl, rfl⟩⟩ ⟨_, _, a2⟩ a3 a4 a5 a6 a7)
  · cases hT : s.heap.get? T with
    | none => exact next_free D hz (.inr ⟨T, rfl, hT⟩) hTI hTO q1 q2 hl1 hl2 hx hy fun h' a1 a2 a3 a4 a5 a6 a7 => wpAny_pure (fin h' ⟨_, _, a1, .inr ⟨_, _, rfl, rfl⟩⟩ ⟨_, _, a2⟩ a3 a4 a5 a6 a7)
    | some oT =>
      exact zip_next_item_held D hz hT hTI q1 q2 hl1 hl2 hx hy fun h' a1 a3 a4 a5 a6 a7 =>
        wpAny_pure (fin h' ⟨_, _, a1, .inr ⟨_, _, rfl, rfl⟩⟩ ⟨_, _, a7 _ _ D.TOz D.TOi1 D.TOi2 hTO⟩ a3 a4 a5 a6 fun c o c1 c2 c3 c4 e => a7 c o c1 c3 c4 e)
theorem zip_nextOf_end {z TI TO i1 i2 l1 l2 : Addr} {k1 k2 : Nat} {xs ys : Array Value} {a b : Value} {Q : Value → Shared → Prop} (hh : A.handled = none) (D : ZipApart z TI TO i1 i2 l1 l2)
    (hz : Zst s.heap z TI TO) (hTI : IsPair s.heap TI (.ref i1) (.ref i2)) (hTO : IsPair s.heap TO a b)
    (q1 : s.heap.IsListIter i1 l1 k1) (q2 : s.heap.IsListIter i2 l2 k2) (hl1 : s.heap.IsList l1 xs) (hl2 : s.heap.IsList l2 ys) (hx : xs[k1]? = none)
    (fin : ∀ h' e, (∀ c o, c ≠ z → c ≠ TO → c ≠ i1 → c ≠ i2 → s.heap.get? c = some o → h'.get? c = some o) → (∃ o, h'.get? e = some o ∧ o.cls = .type "StopIteration") → E (.ref e) { s with heap := h' }) :
    wpAny (model prog w) A (Builtin.SmallTypes.nextOf (.ref z)) Q E s := by
  obtain ⟨f0, fl, hz, hf⟩ := hz
  have ty : s.TypeIs (.ref z) "zip" := ⟨_, hz, rfl⟩
  unfold Builtin.SmallTypes.nextOf
  refine wpAny_bind (wpAny_callSpecial?_slot (name := Str.ofString "__next__") ty F.slot_zip_next (wpAny_call_entry F.slot_zip_next ty F.entry_zip_next ?_ (F.args_zip_next_1 _)))
  rcases hf with rfl | ⟨T, f, rfl, rfl⟩
  · exact end_free hh D hz (.inl rfl) hTI hTO q1 q2 hl1 hl2 hx fin
  · cases hT : s.heap.get? T with
    | none => exact end_free hh D hz (.inr ⟨T, rfl, hT⟩) hTI hTO q1 q2 hl1 hl2 hx fin
    | some oT => exact zip_next_end_held hh D hz hT hTI q1 q2 hl1 hl2 (.inl hx) fun h' e k => fin h' e fun c o c1 c2 c3 c4 => k c o c1 c3 c4
/-- one turn of enumerate over such a zip -/
theorem enum_next {e z TI TO i1 i2 l1 l2 : Addr} {c : Int} {k1 k2 : Nat} {xs ys : Array Value} {x y a b old : Value} {Q : Value → Shared → Prop} (D : ZipApart z TI TO i1 i2 l1 l2) (ez : e ≠ z) (eT : e ≠ TO) (e1 : e ≠ i1) (e2 : e ≠ i2)
    (he : IsEnum s.heap e z c old) (hz : Zst s.heap z TI TO) (hTI : IsPair s.heap TI (.ref i1) (.ref i2)) (hTO : IsPair s.heap TO a b)
    (q1 : s.heap.IsListIter i1 l1 k1) (q2 : s.heap.IsListIter i2 l2 k2) (hl1 : s.heap.IsList l1 xs) (hl2 : s.heap.IsList l2 ys) (hx : xs[k1]? = some x) (hy : ys[k2]? = some y)
    (fin : ∀ h', IsEnumOut h' e z (c + 1) (.ref s.heap.objs.size) (s.heap.objs.size + 1) → Zst h' z TI TO → (∃ a b, IsPair h' TO a b) → h'.IsListIter i1 l1 (k1 + 1) → h'.IsListIter i2 l2 (k2 + 1) → IsPair h' s.heap.objs.size x y →
      IsPair h' (s.heap.objs.size + 1) (.int c s.toks) (.ref s.heap.objs.size) → h'.objs.size = s.heap.objs.size + 2 →
      (∀ b o, b ≠ e → b ≠ z → b ≠ TO → b ≠ i1 → b ≠ i2 → s.heap.get? b = some o → h'.get? b = some o) → Q (.ref (s.heap.objs.size + 1)) { s with heap := h', toks := s.toks + 1 }) :
    wpAny (model prog w) A (Builtin.«enumerate.__next__» ⟨[.ref e], []⟩) (fun r s' => ∃ v, r = .done (.ret v) ∧ Q v s') E s := by
  obtain ⟨hp, g, d, tk, os⟩ := s
  show wpAny _ _ (field (.ref e) 2 >>= _) _ _ _
  refine wpAny_bind (wpAny_field he rfl (x := .ref z) rfl ?_)
  refine wpAny_bind (zip_nextOf D hz hTI hTO q1 q2 hl1 hl2 hx hy fun g1 z1 t1 w1 w2 p1 s1 kp1 => ?_)
  have he1 : IsEnum g1 e z c old := kp1 e _ ez eT e1 e2 he
  replace p1 : IsPair g1 hp.objs.size x y := p1
  replace s1 : g1.objs.size = hp.objs.size + 1 := s1
  show wpAny _ _ (field (.ref e) 3 >>= _) _ _ ⟨g1, g, d, tk, os⟩
  refine wpAny_bind (wpAny_field he1 rfl (x := rawInt c) rfl ?_)
  show wpAny _ _ (field (.ref e) 4 >>= _) _ _ ⟨g1, g, d, tk, os⟩
  refine wpAny_bind (wpAny_field he1 rfl (x := .none) rfl ?_)
  show wpAny _ _ (mkInt c >>= _) _ _ ⟨g1, g, d, tk, os⟩
  refine wpAny_bind (wpAny_mkInt ?_)
  show wpAny _ _ (setField (.ref e) 3 (rawInt (c + 1)) >>= _) _ _ ⟨g1, g, d, tk + 1, os⟩
  refine wpAny_bind (wpAny_setField_rec he1 (by simp) fun g2 he2 b2 => ?_)
  replace b2 : Heap.SameBut e g1 g2 := b2
  replace he2 : IsEnum g2 e z (c + 1) old := he2
  show wpAny _ _ (setField (.ref e) 4 .none >>= _) _ _ ⟨g2, g, d, tk + 1, os⟩
  refine wpAny_bind (wpAny_setField_rec he2 (by simp) fun g3 he3 b3 => ?_)
  replace b3 : Heap.SameBut e g2 g3 := b3
  replace he3 : IsEnum g3 e z (c + 1) old := he3
  show wpAny _ _ (newTuple [.int c tk, .ref hp.objs.size] >>= _) _ _ ⟨g3, g, d, tk + 1, os⟩
  refine wpAny_bind (wpAny_newTuple ?_)
  have he4 : IsEnum (g3.push { cls := .type "tuple", data := .seq #[.int c tk, .ref hp.objs.size] }) e z (c + 1) old := Heap.get?_push_of_some _ he3
  have sz : g3.objs.size = hp.objs.size + 1 := by rw [b3.1, b2.1, s1]
  have pT : (g3.push { cls := .type "tuple", data := .seq #[.int c tk, .ref hp.objs.size] }).get? (hp.objs.size + 1) = some { cls := .type "tuple", data := .seq #[.int c tk, .ref hp.objs.size] } := by rw [← sz]; exact Heap.get?_push_size _ rfl
  have s4 : (g3.push { cls := .type "tuple", data := .seq #[.int c tk, .ref hp.objs.size] }).objs.size = hp.objs.size + 2 := by rw [Heap.size_push, sz]
  have up4 : ∀ b o, b ≠ e → g1.get? b = some o → (g3.push { cls := .type "tuple", data := .seq #[.int c tk, .ref hp.objs.size] }).get? b = some o := fun b o n q => Heap.get?_push_of_some _ (b3.extBut b o n (b2.extBut b o n q))
  generalize g3.push { cls := .type "tuple", data := .seq #[.int c tk, .ref hp.objs.size] } = g4 at he4 pT s4 up4
  show wpAny _ _ (Builtin.SmallTypes.ownedTupleIsFree (.ref e) >>= _) _ _ ⟨g4, g, d, tk + 1, os⟩
  rw [sz]
  refine wpAny_bind ?_
  unfold Builtin.SmallTypes.ownedTupleIsFree
  refine wpAny_bind (wpAny_field he4 rfl (x := .none) rfl (wpAny_pure ?_))
  simp only [if_true]
  refine wpAny_bind (wpAny_rule ?_)
  refine wpAny_bind (wpAny_field he4 rfl (x := old) rfl ?_)
  refine wpAny_bind (wpAny_setField_rec he4 (by simp) fun g5 he5 b5 => ?_)
  replace b5 : Heap.SameBut e g4 g5 := b5
  replace he5 : IsEnum g5 e z (c + 1) (.ref hp.objs.size) := he5
  show wpAny _ _ (Builtin.SmallTypes.ownedTupleHandOut (.ref e) (.ref (hp.objs.size + 1)) >>= _) _ _ ⟨g5, g, d, tk + 1, os⟩
  refine wpAny_bind ?_
  unfold Builtin.SmallTypes.ownedTupleHandOut
  refine wpAny_bind (wpAny_setField_rec he5 (by simp) fun g6 he6 b6 => ?_)
  replace b6 : Heap.SameBut e g5 g6 := b6
  replace he6 : IsEnumOut g6 e z (c + 1) (.ref hp.objs.size) (hp.objs.size + 1) := he6
  refine wpAny_setField_rec he6 (by simp) fun g7 he7 b7 => ?_
  replace b7 : Heap.SameBut e g6 g7 := b7
  replace he7 : IsEnumOut g7 e z (c + 1) (.ref hp.objs.size) (hp.objs.size + 1) := he7
  have up : ∀ b o, b ≠ e → g1.get? b = some o → g7.get? b = some o := fun b o n q => b7.extBut b o n (b6.extBut b o n (b5.extBut b o n (up4 b o n q)))
  have elt : e < g1.objs.size := Heap.lt_size he1
  refine wpAny_bind (wpAny_letGo (wpAny_pure ⟨_, rfl, ?_⟩))
  have elp : e < hp.objs.size := Heap.lt_size he
  obtain ⟨ta, tb, t1⟩ := t1
  refine fin g7 he7 (z1.at' fun o => up z o (Ne.symm ez)) ⟨ta, tb, up TO _ (Ne.symm eT) t1⟩ (w1.at fun o => up i1 o (Ne.symm e1)) (w2.at fun o => up i2 o (Ne.symm e2)) (up _ _ (Nat.ne_of_gt elp) p1) ?_ ?_ fun b o n1 n2 n3 n4 n5 q => up b o n1 (kp1 b o n2 n3 n4 n5 q)
  · exact b7.extBut _ _ (Nat.ne_of_gt (Nat.lt_succ_of_lt elp)) (b6.extBut _ _ (Nat.ne_of_gt (Nat.lt_succ_of_lt elp)) (b5.extBut _ _ (Nat.ne_of_gt (Nat.lt_succ_of_lt elp)) pT))
  · show g7.objs.size = hp.objs.size + 2
    rw [b7.1, b6.1, b5.1, s4]
end
end ZE
set_option Elab.async false
set_option linter.all false
set_option maxRecDepth 100000
set_option maxHeartbeats 4000000
namespace ZE
open PySem PySem.Spec PyProof.Rows L2
open PySem.Sem (wp)
open PySem.AutoSeq1 (wpAny_loadPart')
section
variable {prog : Program} {w : World} {A : Around} {E : Value → Shared → Prop} {s : Shared}
theorem py_item {e z TI TO i1 i2 l1 l2 : Addr} {c : Int} {k1 k2 : Nat} {xs ys : Array Value} {x y a b old : Value} {Q : Option Value → Shared → Prop} (D : ZipApart z TI TO i1 i2 l1 l2) (ez : e ≠ z) (eT : e ≠ TO) (e1 : e ≠ i1) (e2 : e ≠ i2)
    (he : IsEnum s.heap e z c old) (hz : Zst s.heap z TI TO) (hTI : IsPair s.heap TI (.ref i1) (.ref i2)) (hTO : IsPair s.heap TO a b)
    (q1 : s.heap.IsListIter i1 l1 k1) (q2 : s.heap.IsListIter i2 l2 k2) (hl1 : s.heap.IsList l1 xs) (hl2 : s.heap.IsList l2 ys) (hx : xs[k1]? = some x) (hy : ys[k2]? = some y)
    (fin : ∀ h', IsEnumOut h' e z (c + 1) (.ref s.heap.objs.size) (s.heap.objs.size + 1) → Zst h' z TI TO → (∃ a b, IsPair h' TO a b) → h'.IsListIter i1 l1 (k1 + 1) → h'.IsListIter i2 l2 (k2 + 1) → IsPair h' s.heap.objs.size x y →
      IsPair h' (s.heap.objs.size + 1) (.int c s.toks) (.ref s.heap.objs.size) → h'.objs.size = s.heap.objs.size + 2 →
      (∀ b o, b ≠ e → b ≠ z → b ≠ TO → b ≠ i1 → b ≠ i2 → s.heap.get? b = some o → h'.get? b = some o) → Q (some (.ref (s.heap.objs.size + 1))) { s with heap := h', toks := s.toks + 1 }) :
    wpAny (model prog w) A (pyNext (.ref e)) Q E s := by
  have ty : s.TypeIs (.ref e) "enumerate" := ⟨_, he, rfl⟩
  unfold pyNext
  exact wpAny_bind (wpAny_attempt (wpAny_callSpecial?_slot (name := Str.ofString "__next__") ty F.slot_enumerate_next (wpAny_call_entry F.slot_enumerate_next ty F.entry_enumerate_next
      (enum_next D ez eT e1 e2 he hz hTI hTO q1 q2 hl1 hl2 hx hy fun h' a1 a2 a3 a4 a5 a6 a7 a8 a9 => wpAny_pure (fin h' a1 a2 a3 a4 a5 a6 a7 a8 a9)) (F.args_enumerate_next_1 _))))
theorem py_end {e z TI TO i1 i2 l1 l2 : Addr} {c : Int} {k1 k2 : Nat} {xs ys : Array Value} {a b old : Value} {Q : Option Value → Shared → Prop} (hh : A.handled = none) (D : ZipApart z TI TO i1 i2 l1 l2)
    (he : IsEnum s.heap e z c old) (hz : Zst s.heap z TI TO) (hTI : IsPair s.heap TI (.ref i1) (.ref i2)) (hTO : IsPair s.heap TO a b)
    (q1 : s.heap.IsListIter i1 l1 k1) (q2 : s.heap.IsListIter i2 l2 k2) (hl1 : s.heap.IsList l1 xs) (hl2 : s.heap.IsList l2 ys) (hx : xs[k1]? = none)
    (fin : ∀ h', (∀ c o, c ≠ z → c ≠ TO → c ≠ i1 → c ≠ i2 → s.heap.get? c = some o → h'.get? c = some o) → Q none { s with heap := h' }) : wpAny (model prog w) A (pyNext (.ref e)) Q E s := by
  have ty : s.TypeIs (.ref e) "enumerate" := ⟨_, he, rfl⟩
  unfold pyNext
  refine wpAny_bind (wpAny_attempt (wpAny_callSpecial?_slot (name := Str.ofString "__next__") ty F.slot_enumerate_next (wpAny_call_entry F.slot_enumerate_next ty F.entry_enumerate_next ?_ (F.args_enumerate_next_1 _))))
  show wpAny _ _ (field (.ref e) 2 >>= _) _ _ _
  refine wpAny_bind (wpAny_field he rfl (x := .ref z) rfl ?_)
  refine wpAny_bind (zip_nextOf_end hh D hz hTI hTO q1 q2 hl1 hl2 hx fun h' x kp hx' => ?_)
  obtain ⟨o, ho, hc⟩ := hx'
  exact wpAny_bind (wpAny_isInstance (T := "StopIteration") (b := true) ⟨o, ho, hc⟩ isSubtype_stop (wpAny_pure (fin _ kp)))
end
theorem meets_new (z TI TO : Addr) :
    Meets (Builtin.«enumerate.__new__» ⟨[.type "enumerate", .ref z], []⟩) (fun _ R s => Zs s.heap z TI TO .none (.bool false) ∧
      R (.ok (.ret (.ref s.heap.objs.size))) { s with heap := s.heap.push { cls := .type "enumerate", data := .fields #[.none, .bool false, .ref z, rawInt 0, .none, .none] } }) :=
  .of_wp fun prog w A R s h => by
    obtain ⟨hp, g, d, tk, os⟩ := s
    obtain ⟨hz, h⟩ := h
    have hsub := sub_enumerate
    have hZ : IsZip (Shared.heap ⟨hp, g, d, tk, os⟩) z TI TO .none := hz
    wp_walk using wpAny_loadPart' hz
    refine wpAny_stack_any fun st => wpAny_pure ?_
    split
    · rename_i c _ _ _ _ _
      cases (c == Value.type "enumerate") <;> (wp_walk using wpAny_loadPart' hz, wpAny_pyIter_zip hZ; exact ⟨_, rfl, h⟩)
    · wp_walk using wpAny_loadPart' hz, wpAny_pyIter_zip hZ
      exact ⟨_, rfl, h⟩
theorem call_enum {prog : Program} {w : World} {A : Around} {E : Value → Shared → Prop} {s : Shared} {z TI TO : Addr} {Q : Value → Shared → Prop} (hz : Zs s.heap z TI TO .none (.bool false))
    (fin : ∀ h', IsEnum h' s.heap.objs.size z 0 .none → h'.objs.size = s.heap.objs.size + 1 → (∀ b o, s.heap.get? b = some o → h'.get? b = some o) → Q (.ref s.heap.objs.size) { s with heap := h' }) :
    wpAny (model prog w) A (call (.type "enumerate") [.ref z]) Q E s := by
  refine callType_new F.called_enumerate (by decide) (F.typeCall_enumerate_1 _) (F.newCall_enumerate_1 _) (fun obj => F.args_object_init_2 obj _) F.entry_enumerate_new (meets_new z TI TO) ⟨hz, ?_⟩
  have he : IsEnum (s.heap.push { cls := .type "enumerate", data := .fields #[.none, .bool false, .ref z, rawInt 0, .none, .none] }) s.heap.objs.size z 0 .none := Heap.get?_push_size _ rfl
  exact ⟨⟨_, he, rfl⟩, fin _ he (Heap.size_push ..) fun b o x => Heap.get?_push_of_some _ x⟩
end ZE
set_option Elab.async false
set_option linter.all false
set_option maxRecDepth 100000
set_option maxHeartbeats 4000000
namespace ZE
open PySem PySem.Spec PyProof.Rows L2
/-- the lists at a and b as they stand at each turn: (i, (x, y)), both tuples new -/
def Itez (K : PySem.W.Frag) (a b : Addr) : It :=
  ⟨fun i H => ∃ (xs ys : List V) (x y : V), SqL K H a xs ∧ SqL K H b ys ∧ xs[i]? = some x ∧ ys[i]? = some y,
    fun i H v H' => ∃ T U x y, v = .ref U ∧ H T = none ∧ H U = none ∧ T ≠ U ∧ H' = upd (upd H T (.tup [x, y])) U (.tup [.int (i : Nat), .ref T]) ∧ (∀ xs, SqL K H a xs → xs[i]? = some x) ∧ ∀ ys, SqL K H b ys → ys[i]? = some y,
    fun i H => ∃ xs ys : List V, SqL K H a xs ∧ SqL K H b ys ∧ xs.length ≤ i⟩
structure Fp (e z TI TO i1 i2 : Addr) : Prop where
  ez : e ≠ z
  eI : e ≠ TI
  eT : e ≠ TO
  e1 : e ≠ i1
  e2 : e ≠ i2
theorem turn {P : Program} {w : World} {K : PySem.W.Frag} {elts : List Expr} {kk : Nat} {tpos : Pos} {a b e z TI TO i1 i2 : Addr} (D : ZipApart z TI TO i1 i2 a b) (N : Fp e z TI TO i1 i2) :
    Turn P w K (.Tuple elts kk tpos) (Itez K a b) [e, z, TI, TO, i1, i2] e
      (fun i h => (∃ old, IsEnum h e z ((i : Nat) : Int) old) ∧ Zst h z TI TO ∧ IsPair h TI (.ref i1) (.ref i2) ∧ (∃ x y, IsPair h TO x y) ∧ h.IsListIter i1 a i ∧ h.IsListIter i2 b i) where
  mem := by simp
  obj := fun i h st c hc => by
    obtain ⟨⟨old, he⟩, ⟨f0, fl, hz, _⟩, hTI, ⟨x, y, hTO⟩, ⟨o1, e1, _, d1⟩, ⟨o2, e2, _, d2⟩⟩ := st
    have e' : c = e ∨ c = z ∨ c = TI ∨ c = TO ∨ c = i1 ∨ c = i2 := by simpa using hc
    rcases e' with q | q | q | q | q | q
    · rw [q]; exact ⟨_, he, fun v k => nomatch k⟩
    · rw [q]; exact ⟨_, hz, fun v k => nomatch k⟩
    · rw [q]; exact ⟨_, hTI, fun v k => nomatch k⟩
    · rw [q]; exact ⟨_, hTO, fun v k => nomatch k⟩
    · rw [q]; exact ⟨o1, e1, fun v k => by rw [d1] at k; cases k⟩
    · rw [q]; exact ⟨o2, e2, fun v k => by rw [d2] at k; cases k⟩
  keep := fun i h h' st k => by
    obtain ⟨⟨old, he⟩, hz, hTI, ⟨x, y, hTO⟩, w1, w2⟩ := st
    exact ⟨⟨old, k e (by simp) _ he⟩, hz.at' fun o => k z (by simp) o, k TI (by simp) _ hTI, ⟨x, y, k TO (by simp) _ hTO⟩, w1.at fun o q => k i1 (by simp) o q, w2.at fun o q => k i2 (by simp) o q⟩
  item := by
    intro X hP hw hK hc i pins s σ H E I hf st hg
    subst hP hw hK
    obtain ⟨⟨old, he⟩, hz, hTI, ⟨x0, y0, hTO⟩, w1, w2⟩ := st
    obtain ⟨xs, ys, x, y, hqx, hqy, hx, hy⟩ := hg
    obtain ⟨its, rv, p, _⟩ := I.list hqx
    obtain ⟨its2, rv2, p2, _⟩ := I.list hqy
    obtain ⟨u, hu, ru⟩ := rv.get hx
    obtain ⟨u2, hu2, ru2⟩ := rv2.get hy
    have lts : ∀ c ∈ [e, z, TI, TO, i1, i2], c < s.heap.objs.size := fun c hc => by
      have e' : c = e ∨ c = z ∨ c = TI ∨ c = TO ∨ c = i1 ∨ c = i2 := by simpa using hc
      rcases e' with q | q | q | q | q | q
      · rw [q]; exact Heap.lt_size he
      · rw [q]; obtain ⟨_, _, q, _⟩ := hz; exact Heap.lt_size q
      · rw [q]; exact Heap.lt_size hTI
      · rw [q]; exact Heap.lt_size hTO
      · rw [q]; obtain ⟨_, q, _⟩ := w1; exact Heap.lt_size q
      · rw [q]; obtain ⟨_, q, _⟩ := w2; exact Heap.lt_size q
    refine py_item D N.ez N.eT N.e1 N.e2 he hz hTI hTO w1 w2 p.isList p2.isList (x := u) (y := u2) (by simpa using hu) (by simpa using hu2) fun h' he' hz' tO' w1' w2' pT pU sz kp => ?_
    refine ⟨_, rfl, wpAny_letOwnedTupleGo_enum (s := { s with heap := h', toks := s.toks + 1 }) he' fun h'' he'' sb => ?_⟩
    have elt := lts e (by simp)
    have pT2 : h''.get? s.heap.objs.size = some { cls := .type "tuple", data := .seq #[u, u2] } := (sb.2 _ (Nat.ne_of_gt elt)).trans pT
    have pU2 : h''.get? (s.heap.objs.size + 1) = some { cls := .type "tuple", data := .seq #[.int i s.toks, .ref s.heap.objs.size] } := (sb.2 _ (Nat.ne_of_gt (Nat.lt_succ_of_lt elt))).trans pU
    have kp2 : ∀ c o, c ∉ [e, z, TI, TO, i1, i2] → s.heap.get? c = some o → h''.get? c = some o := fun c o n q =>
      (sb.2 c (fun z => n (by simp [z]))).trans (kp c o (fun z => n (by simp [z])) (fun z => n (by simp [z])) (fun z => n (by simp [z])) (fun z => n (by simp [z])) (fun z => n (by simp [z])) q)
    -- the inner tuple laid, then the turn
    have mid : (s.heap.push { cls := .type "tuple", data := .seq #[u, u2] }).get? s.heap.objs.size = some { cls := .type "tuple", data := .seq #[u, u2] } := Heap.get?_push_size _ rfl
    have msz : (s.heap.push { cls := .type "tuple", data := .seq #[u, u2] }).objs.size = s.heap.objs.size + 1 := Heap.size_push ..
    have mkp : ∀ c o, s.heap.get? c = some o → (s.heap.push { cls := .type "tuple", data := .seq #[u, u2] }).get? c = some o := fun c o q => Heap.get?_push_of_some _ q
    have mback : ∀ c o, c ≠ s.heap.objs.size → (s.heap.push { cls := .type "tuple", data := .seq #[u, u2] }).get? c = some o → s.heap.get? c = some o := fun c o n q => by
      rwa [PySem.Heap.get?_push_ne _ _ _ n] at q
    generalize s.heap.push { cls := .type "tuple", data := .seq #[u, u2] } = m at mid msz mkp mback
    have new1 : ObjOk X.prog X.w (upd H s.heap.objs.size (.tup [x, y])) m s.heap.objs.size (.tup [x, y]) := ⟨by show 2 ≤ sizeLine; decide, [u, u2], .cons ru (.cons ru2 .nil), ⟨_, mid, rfl, _, rfl⟩⟩
    have I1 : Inv X pins σ (upd H s.heap.objs.size (.tup [x, y])) { s with heap := m } := I.laid (t' := s.toks) mkp (Nat.le_refl _) new1
    have new2 : ObjOk X.prog X.w (upd (upd H s.heap.objs.size (.tup [x, y])) (s.heap.objs.size + 1) (.tup [.int (i : Nat), .ref s.heap.objs.size])) h'' (s.heap.objs.size + 1) (.tup [.int (i : Nat), .ref s.heap.objs.size]) :=
      ⟨by show 2 ≤ sizeLine; decide, [.int i s.toks, .ref s.heap.objs.size], .cons ⟨_, rfl⟩ (.cons rfl .nil), ⟨_, pU2, rfl, _, rfl⟩⟩
    have hf1 : ∀ c ∈ [e, z, TI, TO, i1, i2], FpOk X pins (upd H s.heap.objs.size (.tup [x, y])) c := fun c hc => by
      have q := hf c hc
      refine ⟨?_, q.2⟩
      rw [upd_ne (Nat.ne_of_lt (lts c hc))]
      exact q.1
    have I2 : Inv X pins σ (upd (upd H s.heap.objs.size (.tup [x, y])) (s.heap.objs.size + 1) (.tup [.int (i : Nat), .ref s.heap.objs.size])) { s with heap := h'', toks := s.toks + 1 } :=
      Inv.turnedNew (s := { s with heap := m }) (ch := [e, z, TI, TO, i1, i2]) (t' := s.toks + 1) I1 (fun c o n q => by
        by_cases cs : c = s.heap.objs.size
        · subst cs
          rw [mid] at q
          cases q
          exact pT2
        · exact kp2 c o n (mback c o cs q)) hf1 (Nat.le_of_eq msz) new2
    refine ⟨.ref (s.heap.objs.size + 1), _, I2, rfl, ⟨_, _, x, y, rfl, I.hok.fresh (Nat.le_refl _), I.hok.fresh (Nat.le_succ _), Nat.ne_of_lt (Nat.lt_succ_self _), rfl, fun l hl => by rw [I.list_inj hl hqx]; exact hx, fun l hl => by rw [I.list_inj hl hqy]; exact hy⟩,
      ⟨⟨.ref s.heap.objs.size, ?_⟩, hz'.at' fun o q => (sb.2 _ (Ne.symm N.ez)).trans q, (sb.2 _ (Ne.symm N.eI)).trans (kp _ _ (Ne.symm N.eI) D.TIz D.TITO D.TIi1 D.TIi2 hTI), ?_, w1'.at fun o q => (sb.2 _ (Ne.symm N.e1)).trans q, w2'.at fun o q => (sb.2 _ (Ne.symm N.e2)).trans q⟩, fun c hc => ?_⟩
    · have e1 : ((i + 1 : Nat) : Int) = (i : Int) + 1 := by omega
      rw [e1]; exact he''
    · obtain ⟨ta, tb, t⟩ := tO'
      exact ⟨ta, tb, (sb.2 _ (Ne.symm N.eT)).trans t⟩
    · have l := lts c hc
      rw [upd_ne (Nat.ne_of_lt (Nat.lt_succ_of_lt l)), upd_ne (Nat.ne_of_lt l)]
      exact (hf c hc).1
  done := by
    intro X hP hw hK hc i pins s σ H E I hf st hg
    subst hP hw hK
    obtain ⟨⟨old, he⟩, hz, hTI, ⟨x0, y0, hTO⟩, w1, w2⟩ := st
    obtain ⟨xs, ys, hqx, hqy, hend⟩ := hg
    obtain ⟨its, rv, p, _⟩ := I.list hqx
    obtain ⟨its2, rv2, p2, _⟩ := I.list hqy
    have l1 := rv.length
    exact py_end (I.ok.hd hc) D he hz hTI hTO w1 w2 p.isList p2.isList (by simp; omega) fun h' hk => ⟨rfl, I.turnedL (t' := s.toks) (ch := [e, z, TI, TO, i1, i2]) (fun c o hb q =>
      hk c o (fun q' => hb (by simp [q'])) (fun q' => hb (by simp [q'])) (fun q' => hb (by simp [q'])) (fun q' => hb (by simp [q'])) q) hf⟩
  self := fun A i s Q E st h => let ⟨⟨_, he⟩, _⟩ := st; wpAny_pyIter_enum he h
def iEnumZip (K : PySem.W.Frag) (ta : TA) : TI := fun σ H R => ta σ H fun vs H1 => ∃ a b xs ys, vs = [.ref a, .ref b] ∧ SqL K H1 a xs ∧ SqL K H1 b ys ∧ R (Itez K a b) H1
theorem pi_enumZip {X : Cx} {e e2 : Expr} {ta : TA} {p p2 pos pos2 tpos : Pos} {elts : List Expr} {kk : Nat} (hg : Gl X "zip") (hm : X.mg "zip" = none) (hg2 : Gl X "enumerate") (hm2 : X.mg "enumerate" = none) (ha : PA X [e, e2] ta)
    (hs : starEach [e, e2] X.env = (false, eval e X.env) :: starEach [e2] X.env := by rfl) (hpl : (backTo pos2 (starEach [e2] X.env)).any (·.1) = false := by rfl)
    (hs2 : starEach [.Call (.Name "zip" p2) [e, e2] [] pos2] X.env = (false, eval (.Call (.Name "zip" p2) [e, e2] [] pos2) X.env) :: starEach [] X.env := by rfl) :
    PI X (.Tuple elts kk tpos) (.Call (.Name "enumerate" p) [.Call (.Name "zip" p2) [e, e2] [] pos2] [] pos) (iEnumZip X.K ta) := by
  refine ⟨fun pins s σ H R I h => ?_⟩
  refine Call_ (ld_blt I hg2 hm2 boot_enumerate (PyProof.Rows.callWith_type1 ?_ hs2 rfl))
  rw [hs2]
  show wpAny _ _ (spliced ((false, _) :: backTo pos (starEach [] X.env))) _ _ s
  refine Calls.spliced_cons ?_
  refine Call_ (ld_blt I hg hm PyProof.Rows.boot_zip (PyProof.Rows.callWith_type1 (thn (ha.run pos2 pins s σ H _ I h) fun us s1 ⟨vs, H1, I1, r1, q1⟩ => ?_) hs hpl))
  obtain ⟨a, b, xs, ys, ex, hqx, hqy, q⟩ := q1
  subst ex
  cases r1 with
  | cons r rr =>
    cases rr with
    | cons r' rr =>
      cases rr
      cases r
      cases r'
      obtain ⟨its, rv, p1, _⟩ := I1.list hqx
      obtain ⟨its2, rv2, p2, _⟩ := I1.list hqy
      have la : a < s1.heap.objs.size := p1.lt
      have lb : b < s1.heap.objs.size := p2.lt
      refine call_zip_2 p1.isList p2.isList fun h' hz hTI hTO w1 w2 sz hk => ?_
      refine Calls.spliced_nil ?_
      have I2 : Inv X pins σ H1 { s1 with heap := h' } := I1.kept (t' := s1.toks) hk
      have hz' : Zs h' (s1.heap.objs.size + 4) (s1.heap.objs.size + 2) (s1.heap.objs.size + 3) .none (.bool false) := hz
      refine call_enum (s := { s1 with heap := h' }) hz' fun h2 he sz2 hk2 => wpAny_pyIter_enum he ?_
      have I3 : Inv X pins σ H1 { s1 with heap := h2 } := I2.kept (t' := s1.toks) hk2
      have sz2 : h2.objs.size = h'.objs.size + 1 := sz2
      have eh : ({ s1 with heap := h' } : Shared).heap.objs.size = s1.heap.objs.size + 5 := sz
      rw [eh] at he ⊢
      have ne : ∀ k, k < 5 → s1.heap.objs.size + 5 ≠ s1.heap.objs.size + k := fun k hk => by
        intro q
        have := Nat.add_left_cancel q
        omega
      refine ⟨s1.heap.objs.size + 5, [s1.heap.objs.size + 5, s1.heap.objs.size + 4, s1.heap.objs.size + 2, s1.heap.objs.size + 3, s1.heap.objs.size, s1.heap.objs.size + 1], _, _, H1, rfl, I3, turn (PySem.W.ktu_apart s1.heap.objs.size a b la lb) ⟨ne 4 (by decide), ne 2 (by decide), ne 3 (by decide), ne 0 (by decide), ne 1 (by decide)⟩,
        ⟨⟨.none, he⟩, ⟨_, _, hk2 _ _ hz', .inl rfl⟩, hk2 _ _ hTI, ⟨_, _, hk2 _ _ hTO⟩, w1.at fun o q => hk2 _ o q, w2.at fun o q => hk2 _ o q⟩, fun c hcm => ?_, q⟩
      have hle : s1.heap.objs.size ≤ c := by
        have e' : c = s1.heap.objs.size + 5 ∨ c = s1.heap.objs.size + 4 ∨ c = s1.heap.objs.size + 2 ∨ c = s1.heap.objs.size + 3 ∨ c = s1.heap.objs.size ∨ c = s1.heap.objs.size + 1 := by simpa using hcm
        rcases e' with z | z | z | z | z | z <;> rw [z] <;> first | exact Nat.le_refl _ | exact Nat.le_add_right _ _
      have f0 := I1.fpOk hle (I1.hok.fresh hle)
      exact f0
end ZE
set_option Elab.async false
set_option linter.all false
set_option maxRecDepth 100000
set_option maxHeartbeats 4000000
/-! calendars that have the same times -/
namespace Cl
def Same (c d : Cal) : Prop := ∀ t, 0 ≤ t → c.has t = d.has t
theorem Same.refl {c : Cal} : Same c c := fun _ _ => rfl
theorem Same.symm {c d : Cal} (h : Same c d) : Same d c := fun t ht => (h t ht).symm
theorem Same.trans {c d e : Cal} (h : Same c d) (k : Same d e) : Same c e := fun t ht => (h t ht).trans (k t ht)
theorem Same.per {c d : Cal} {n q : Int} (s : Same c d) (n0 : 0 ≤ n) (q0 : 0 ≤ q) (h : Per c n q) : Per d n q := fun t ht => by rw [← s (t + q) (by omega), ← s t (by omega)]; exact h t ht
theorem Same.rep {c d : Cal} {n q : Int} (s : Same c d) (h : Rep c n q) : Rep d n q := by
  have q1 := h.q1
  have n0 := h.n0
  refine ⟨q1, n0, s.per n0 (by omega) h.per, fun r r1 rq m k => ?_, fun h0 => ?_⟩
  · refine h.lq r r1 rq (max m 0) (s.symm.per (by omega) (by omega) fun t ht => k t (by omega))
  · rw [← s (n - 1 + q) (by omega), ← s (n - 1) (by omega)]
    exact h.ln h0
theorem Same.tms {c d : Cal} {lo hi : Int} (s : Same c d) (h : 0 ≤ lo) : tms c lo hi = tms d lo hi := by
  unfold Cl.tms
  refine List.filter_congr fun x hx => ?_
  exact s x (by have := mem_rng.mp hx; omega)
theorem same_of_plain {c d : Cal} {n q : Int} (h : Rep c n q) (k : Rep d n q) (e1 : tms c 0 n = tms d 0 n) (e2 : tms c n (n + q) = tms d n (n + q)) : Same c d := by
  have q1 := h.q1
  have n0 := h.n0
  have key : ∀ {lo hi t : Int}, Cl.tms c lo hi = Cl.tms d lo hi → lo ≤ t → t < hi → c.has t = d.has t := fun {lo hi t} e l1 l2 => by
    have a : t ∈ Cl.tms c lo hi ↔ t ∈ Cl.tms d lo hi := by rw [e]
    rw [mem_tms, mem_tms] at a
    cases hc : c.has t <;> cases hd : d.has t <;> simp_all
  intro t ht
  by_cases z : t < n
  · exact key e1 ht z
  · have r0 : 0 ≤ (t - n) % q := Int.emod_nonneg _ (by omega)
    have r1 : (t - n) % q < q := Int.emod_lt_of_pos _ (by omega)
    rw [has_far q1 h.per (by omega), has_far q1 k.per (by omega)]
    exact key e2 (by omega) (by omega)
/-- the least time that parts two calendars -/
def IsUn (c d : Cal) : Option Int → Prop
  | none => Same c d
  | some t => 0 ≤ t ∧ c.has t ≠ d.has t ∧ ∀ u, 0 ≤ u → u < t → c.has u = d.has u
theorem same_of_window {c d : Cal} {n m : Int} {q p : Nat} {W : Int} (hq : 1 ≤ q) (hp : 1 ≤ p) (n0 : 0 ≤ n) (h : Per c n (q : Int)) (k : Per d m (p : Int)) (hW : max n m + (Nat.lcm q p : Nat) ≤ W) (e : ∀ u, 0 ≤ u → u < W → c.has u = d.has u) : Same c d := by
  have L1 : 1 ≤ Nat.lcm q p := Nat.lcm_pos (by omega) (by omega)
  have dq : (q : Int) ∣ (Nat.lcm q p : Nat) := Int.natCast_dvd_natCast.mpr (Nat.dvd_lcm_left q p)
  have dp : (p : Int) ∣ (Nat.lcm q p : Nat) := Int.natCast_dvd_natCast.mpr (Nat.dvd_lcm_right q p)
  generalize Nat.lcm q p = L at *
  have pc : Per c (max n m) (L : Int) := Per.mono (Per.dvd (by omega) h (by omega) dq) (by omega)
  have pd : Per d (max n m) (L : Int) := Per.mono (Per.dvd (by omega) k (by omega) dp) (by omega)
  intro t ht
  by_cases z : t < W
  · exact e t ht z
  · have r0 : 0 ≤ (t - max n m) % (L : Int) := Int.emod_nonneg _ (by omega)
    have r1 : (t - max n m) % (L : Int) < L := Int.emod_lt_of_pos _ (by omega)
    rw [has_far (by omega) pc (by omega), has_far (by omega) pd (by omega)]
    exact e _ (by omega) (by omega)
/-- a plain form told as a calendar -/
def calOf (n q : Int) (rests : List Int) (c : Cal) : Cal := rests.foldl (fun c r => .pair .both c (.every q (n + r) none)) c
theorem calOf_has {n q t : Int} : ∀ (rests : List Int) (c : Cal), (calOf n q rests c).has t = (c.has t || rests.any fun r => decide (n + r ≤ t) && decide ((t - (n + r)) % q = 0))
  | [], c => by simp [calOf]
  | r :: rs, c => by
    have h := calOf_has (n := n) (q := q) (t := t) rs (.pair .both c (.every q (n + r) none))
    unfold calOf at h ⊢
    rw [List.foldl_cons, h, List.any_cons]
    show ((c.has t || (decide (n + r ≤ t) && decide ((t - (n + r)) % q = 0) && true)) || _) = _
    rw [Bool.and_true, Bool.or_assoc]
def restsOf (c : Cal) (n q : Int) : List Int := (tms c n (n + q)).map fun t => t - n
theorem calOf_same {c : Cal} {n q : Int} (h : Rep c n q) : Same (calOf n q (restsOf c n q) (.list (tms c 0 n))) c := by
  have q1 := h.q1
  have n0 := h.n0
  intro t ht
  rw [calOf_has]
  show (decide (t ∈ tms c 0 n) || _) = _
  by_cases z : t < n
  · have e1 : ((restsOf c n q).any fun r => decide (n + r ≤ t) && decide ((t - (n + r)) % q = 0)) = false := by
      rw [List.any_eq_false]
      intro r hr
      obtain ⟨u, hu, rfl⟩ := List.mem_map.mp hr
      have := (mem_tms.mp hu).1
      have : ¬ n + (u - n) ≤ t := by omega
      simp [this]
    rw [e1, Bool.or_false]
    cases hc : c.has t with
    | true => exact decide_eq_true (mem_tms.mpr ⟨⟨ht, z⟩, hc⟩)
    | false => exact decide_eq_false fun k => by rw [(mem_tms.mp k).2] at hc; cases hc
  · have e0 : decide (t ∈ tms c 0 n) = false := decide_eq_false fun k => by have := (mem_tms.mp k).1; omega
    rw [e0, Bool.false_or]
    have r0 : 0 ≤ (t - n) % q := Int.emod_nonneg _ (by omega)
    have r1 : (t - n) % q < q := Int.emod_lt_of_pos _ (by omega)
    have far := has_far q1 h.per (show n ≤ t by omega)
    rw [far]
    have dm := Int.emod_add_mul_ediv (t - n) q
    cases hc : c.has (n + (t - n) % q) with
    | true =>
      rw [List.any_eq_true]
      refine ⟨(t - n) % q, List.mem_map.mpr ⟨n + (t - n) % q, mem_tms.mpr ⟨⟨by omega, by omega⟩, hc⟩, by omega⟩, ?_⟩
      have g1 : (t - (n + (t - n) % q)) % q = 0 := by
        rw [show t - (n + (t - n) % q) = q * ((t - n) / q) by omega]
        exact Int.mul_emod_right ..
      have d0 : 0 ≤ (t - n) / q := Int.ediv_nonneg (by omega) (by omega)
      have g2 : n + (t - n) % q ≤ t := by
        have := Int.mul_nonneg (show 0 ≤ q by omega) d0
        omega
      simp [g1, g2]
    | false =>
      rw [List.any_eq_false]
      intro r hr k
      obtain ⟨u, hu, rfl⟩ := List.mem_map.mp hr
      obtain ⟨⟨u0, u1⟩, u2⟩ := mem_tms.mp hu
      rw [Bool.and_eq_true, decide_eq_true_eq, decide_eq_true_eq] at k
      obtain ⟨k1, k2⟩ := k
      have : (t - n) % q = u - n := by
        have a : (t - n) % q = (u - n) % q := by
          have b : t - n = (t - (n + (u - n))) + (u - n) := by omega
          rw [b, Int.add_emod, k2, Int.zero_add, Int.emod_emod_of_dvd _ (Int.dvd_refl q)]
        rw [a]
        exact Int.emod_eq_of_lt (by omega) (by omega)
      rw [this, show n + (u - n) = u by omega, u2] at hc
      cases hc
end Cl
set_option Elab.async false
set_option linter.all false
set_option maxRecDepth 100000
set_option maxHeartbeats 4000000
namespace ZE
open PySem PySem.Spec PyProof.Rows L2
/-- a loop over enumerate(zip(xs, ys)), the lists of one length -/
theorem for_ez {K : PySem.W.Frag} {a b : Addr} {xs ys : List V} {g : TG} {tb : TS} {D : Ends} {σ : L2.St} {H : Hp} (hl : xs.length = ys.length) (I : Nat → L2.St → Hp → Prop) (h0 : I 0 σ H) (hq : ∀ i σ H, I i σ H → SqL K H a xs ∧ SqL K H b ys)
    (step : ∀ (i : Nat) (x y : V) (T U : Addr) (σ : L2.St) (H : Hp), xs[i]? = some x → ys[i]? = some y → I i σ H → H T = none → H U = none → T ≠ U →
      g (.ref U) σ (upd (upd H T (.tup [x, y])) U (.tup [.int (i : Nat), .ref T])) fun σ2 H2 => tb { D with nx := I (i + 1), ct := I (i + 1), bk := D.nx } σ2 H2) (hd : ∀ σ H, I xs.length σ H → D.nx σ H) :
    ∃ W : Nat → Nat → L2.St → Hp → Prop, (∃ m, W 0 m σ H) ∧ ∀ i m σ H, W i m σ H →
      ((Itez K a b).stop i H ∧ D.nx σ H) ∨ ((Itez K a b).go i H ∧ ∃ N : L2.St → Hp → Prop, (∀ σ' H', N σ' H' → ∃ m', m' < m ∧ W (i + 1) m' σ' H') ∧ ∀ v H', (Itez K a b).yld i H v H' → g v σ H' fun σ2 H2 => tb { D with nx := N, ct := N, bk := D.nx } σ2 H2) := by
  refine ⟨fun i m σ H => i + m = xs.length ∧ I i σ H, ⟨xs.length, Nat.zero_add _, h0⟩, fun i m σ H ⟨em, p⟩ => ?_⟩
  obtain ⟨qa, qb⟩ := hq i σ H p
  cases m with
  | zero =>
    have e : i = xs.length := by omega
    subst e
    exact .inl ⟨⟨xs, ys, qa, qb, Nat.le_refl _⟩, hd σ H p⟩
  | succ m =>
    have l1 : i < xs.length := by omega
    have l2 : i < ys.length := by omega
    refine .inr ⟨⟨xs, ys, _, _, qa, qb, List.getElem?_eq_getElem l1, List.getElem?_eq_getElem l2⟩, I (i + 1), fun σ' H' p' => ⟨m, Nat.lt_succ_self _, by omega, p'⟩, fun v H' y => ?_⟩
    obtain ⟨T, U, x, z, rfl, hT, hU, ne, rfl, f1, f2⟩ := y
    exact step i x z T U σ H (f1 xs qa) (f2 ys qb) p hT hU ne
end ZE
namespace Days
open PySem PySem.Spec PyProof.Rows L2 Y3 Cl
def spUnlike : Sp := fun vs H Q _ => ∃ (v w : V) (c d : Cal), vs = [v, w] ∧ CAt H v c ∧ CAt H w d ∧ CalOk c 0 ∧ CalOk d 0 ∧ ∀ H' r, Ex H H' → IsUn c d r → (∀ t, r = some t → t ≤ 5000) → Q (eV r) H'
section
variable {P : Program} {w : World} {K : PySem.W.Frag} {mg : Str → Option Value} {base : Heap}
theorem ok_unlike {f fM fR : Addr} {fd fdM fdR : FuncData} {k : Nat} (F : Fun K "first_unlike" "first_unlike" sUnlike f fd) (mm : mg "max" = none) (ml : mg "lcm" = some (.builtin "math.lcm")) (mz : mg "zip" = none) (me : mg "enumerate" = none)
    (GR : FnOk P w K mg base CX0 k fR fdR ["c"] spRep0) (gR : mg "_some_repeating" = some (.ref fR)) (kR : PySem.W.keepIn K (.ref fR) = true) (bR : Binds K fdR ["c"] [])
    (GM : FnOk P w K mg base CX0 k fM fdM ["c", "low", "high"] spMarks) (gM : mg "_marks" = some (.ref fM)) (kM : PySem.W.keepIn K (.ref fM) = true) (bM : Binds K fdM ["c", "low", "high"] []) :
    FnOk P w K mg base CX0 (k + 1) f fd ["c", "d"] spUnlike := by
  refine F.ok scUnlike (fun vs H Q E h => ?_) (fun cdv A outer s H vs Q E hr h => ?_)
  · obtain ⟨v, w, c, d, rfl, _⟩ := h
    rfl
  · obtain ⟨v, u, c, d, rfl, hc, hd, okc, okd, fin⟩ := h
    have nd := scUnlike.nd
    refine ⟨_, pss_cons (ps_asg (pe_tup (pa_cons (pe_call GR hr (by rfl) gR kR bR .nil pass0 (pa_cons (pv 0) pa_nil)) (pa_cons (pe_call GR hr (by rfl) gR kR bR .nil pass0 (pa_cons (pv 1) pa_nil)) pa_nil)))
        (pg_tup (by rfl) (pgs_cons (pg_pair (i := 2) (j := 3) nd rfl rfl rfl rfl rfl) (pgs_cons (pg_pair (i := 4) (j := 5) nd rfl rfl rfl rfl rfl) pgs_nil))))
      (pss_cons (ps_set (i := 6) nd rfl (.inl rfl) (pe_op op_add (pe_callB (call_max2 rfl) (by rfl) mm b_max (pa_cons (pv 2) (pa_cons (pv 4) pa_nil))) (pe_callBfun Y2.cr_lcm (by rfl) ml (pa_cons (pv 3) (pa_cons (pv 5) pa_nil)))))
      (pss_cons (ps_for PassesOwn.never rfl (ZE.pi_enumZip (by rfl) mz (by rfl) me (pa_cons (pe_call GM hr (by rfl) gM kM bM .nil pass0 (pa_cons (pv 0) (pa_cons pe_int (pa_cons (pv 6) pa_nil)))) (pa_cons (pe_call GM hr (by rfl) gM kM bM .nil pass0 (pa_cons (pv 1) (pa_cons pe_int (pa_cons (pv 6) pa_nil)))) pa_nil)))
          (pg_tup (by rfl) (pgs_cons (pg_name (i := 7) nd rfl (.inl rfl)) (pgs_cons (pg_pair (i := 8) (j := 9) nd rfl rfl rfl rfl rfl) pgs_nil)))
          (pss_one (ps_if (pt_cmpR op_ne (pv 8) (pv 9) (nomark _)) (pss_one (ps_ret (pv 7))) pss_nil)))
      (pss_one (ps_ret pe_non)))), ?_⟩
    obtain ⟨⟨n0, n1⟩, ⟨q0, q1⟩, perc⟩ := nq_b okc
    obtain ⟨⟨m0, m1⟩, ⟨p0, p1⟩, perd⟩ := nq_b okd
    refine ⟨v, rfl, v, c, rfl, hc, okc, fun H1 a1 e1 na1 ha1 => ?_⟩
    refine ⟨u, rfl, u, d, rfl, hd.ext e1, okd, fun H2 a2 e2 na2 ha2 => ?_⟩
    have ha1 := e2.tup _ _ ha1
    generalize (nqOf c).1 = n at *
    generalize (nqOf c).2 = q at *
    generalize (nqOf d).1 = m at *
    generalize (nqOf d).2 = p at *
    refine ⟨le2, fun t nt => ?_⟩
    have e3 : Ex H2 (upd H2 t (.tup [.ref a1, .ref a2])) := Ext.upd1 nt
    refine ⟨t, _, rfl, sqT_of upd_same, rfl, .ref a1, _, rfl, a1, _, rfl, sqT_of (e3.tup _ _ ha1), rfl, .int n, _, rfl, .int (q : Nat), _, rfl, rfl, .ref a2, _, rfl, a2, _, rfl, sqT_of (e3.tup _ _ ha2), rfl, .int m, _, rfl, .int (p : Nat), _, rfl, rfl, rfl, ?_⟩
    have hc3 := ((hc.ext e1).ext e2).ext e3
    have hd3 := ((hd.ext e1).ext e2).ext e3
    have e03 := (e1.trans e2).trans e3
    generalize upd H2 t (.tup [.ref a1, .ref a2]) = H3 at *
    have lc : q.lcm p ≤ 3600 := Nat.le_trans (Nat.div_le_self _ _) (Nat.le_trans (Nat.mul_le_mul q1 p1) (by decide))
    refine ⟨.int n, rfl, .int m, rfl, n, m, rfl, .int (q : Nat), rfl, .int (p : Nat), rfl, q, p, rfl, by omega, by omega, max n m, (q.lcm p : Nat), by rw [max2], rfl, ?_⟩
    obtain ⟨hi, hhi⟩ : ∃ hi : Int, hi = max n m + (q.lcm p : Nat) := ⟨_, rfl⟩
    have h0 : 0 ≤ hi := by omega
    have h1 : hi ≤ 4301 := by omega
    show gName 6 (.int (max n m + ((q.lcm p : Nat) : Int))) _ _ _
    rw [← hhi]
    have fit : FitsM 0 hi := ⟨by omega, by omega, by omega, by omega, by omega⟩
    refine ⟨v, rfl, .int hi, rfl, v, c, 0, hi, rfl, hc3, okc, fit, fun H4 b1 e4 nb1 hb1 => ?_⟩
    refine ⟨u, rfl, .int hi, rfl, u, d, 0, hi, rfl, hd3.ext e4, okd, fit, fun H5 b2 e5 nb2 hb2 => ?_⟩
    have hb1 := e5.lst not0 hb1
    have e05 := (e03.trans e4).trans e5
    refine ⟨b1, b2, _, _, rfl, sqL_of hb1, sqL_of hb2, ?_⟩
    have l1 : ((mks c 0 hi).map V.bl).length = hi.toNat := by rw [List.length_map, mks_len, Int.sub_zero]
    have l2 : ((mks d 0 hi).map V.bl).length = hi.toNat := by rw [List.length_map, mks_len, Int.sub_zero]
    refine ZE.for_ez (l1.trans l2.symm) (fun i σ H' => ∃ y7 y8 y9 : Option V, σ = [some v, some u, some (.int n), some (.int (q : Nat)), some (.int m), some (.int (p : Nat)), some (.int hi), y7, y8, y9] ∧ Ex H5 H' ∧ ∀ t : Int, 0 ≤ t → t < (i : Nat) → c.has t = d.has t)
      ⟨none, none, none, rfl, Ext.refl, fun t t0 t1 => by omega⟩ (fun i σ H' h => ?_) (fun i x y T U σ H6 hx hy h nT nU ne => ?_) (fun σ H6 h => ?_)
    · obtain ⟨_, _, _, _, e, _⟩ := h
      exact ⟨sqL_of (e.lst not0 hb1), sqL_of (e.lst not0 hb2)⟩
    · obtain ⟨y7, y8, y9, rfl, e6, same⟩ := h
      have ih : i < hi.toNat := by
        have := (List.getElem?_eq_some_iff.mp hx).1
        rw [l1] at this
        exact this
      rw [List.getElem?_map, mks_get (by omega), Int.zero_add] at hx hy
      cases hx
      cases hy
      have e7 : Ex H6 (upd H6 T (.tup [.bl (c.has (i : Nat)), .bl (d.has (i : Nat))])) := Ext.upd1 nT
      have nU2 : upd H6 T (.tup [.bl (c.has (i : Nat)), .bl (d.has (i : Nat))]) U = none := by rw [upd_ne (Ne.symm ne)]; exact nU
      have e8 := Ext.upd1 (S := S0) (o := .tup [.int (i : Nat), .ref T]) nU2
      refine ⟨U, _, rfl, sqT_of upd_same, rfl, .int (i : Nat), _, rfl, .ref T, _, rfl, T, _, rfl, sqT_of (e8.tup _ _ upd_same), rfl, .bl _, _, rfl, .bl _, _, rfl, rfl, rfl, ?_⟩
      refine ⟨.bl _, rfl, .bl _, rfl, rfl, _, rfl, ?_⟩
      rw [dec_bl]
      by_cases g : c.has (i : Nat) = d.has (i : Nat)
      · rw [decide_eq_true g]
        refine iteF ⟨_, _, _, rfl, (e6.trans e7).trans e8, fun t t0 t1 => ?_⟩
        by_cases z : t < (i : Nat)
        · exact same t t0 z
        · rw [show t = (i : Nat) by omega]; exact g
      · rw [decide_eq_false g]
        refine iteT ⟨.int (i : Nat), rfl, ?_⟩
        exact fin _ (some (i : Nat)) (((e05.trans e6).trans e7).trans e8) ⟨by omega, g, fun t t0 t1 => same t t0 t1⟩ (fun t e => by cases e; omega)
    · obtain ⟨y7, y8, y9, rfl, e6, same⟩ := h
      rw [l1] at same
      exact fin _ none (e05.trans e6) (same_of_window q0 p0 n0 perc perd (W := hi) (by omega) fun t t0 t1 => same t t0 (by omega)) (fun t e => by cases e)
end
end Days
set_option Elab.async false
set_option linter.all false
set_option maxRecDepth 100000
set_option maxHeartbeats 4000000
namespace Days
open PySem PySem.Spec PyProof.Rows L2 Y3 Cl
theorem eqvT2 (xs ys : List Int) : PyData.eqv (.tuple (xs.map PyData.int)) (.tuple (ys.map PyData.int)) = decide (xs = ys) := by
  rw [PyData.eqv, eqvI]
theorem eqvP2 (e r e' r' : List Int) (n q n' q' : Int) : PyData.eqv (.tuple [.tuple (e.map PyData.int), .int n, .int q, .tuple (r.map PyData.int)]) (.tuple [.tuple (e'.map PyData.int), .int n', .int q', .tuple (r'.map PyData.int)]) = decide (e = e' ∧ n = n' ∧ q = q' ∧ r = r') := by
  have b : ∀ i j : Int, (i == j) = decide (i = j) := fun i j => by by_cases h : i = j <;> simp [h]
  simp [PyData.eqv, PyData.eqvAll, eqvI, b]
def spEndless (P0 P1 : Addr) : Sp := fun vs H Q _ => ∃ (v : V) (c : Cal), vs = [v] ∧ CAt H v c ∧ CalOk c 0 ∧ GxR.TabG H P0 ∧ GxR.TabG H P1 ∧ ∀ H' n q, Ex H H' → Rep c n q → Q (.bl (!decide (restsOf c n q = []))) H'
def spCalOf : Sp := fun vs H Q _ => ∃ (p a1 a2 : Addr) (n q : Int) (early rests : List Int), vs = [.ref p] ∧ H p = some (.tup [.ref a1, .int n, .int q, .ref a2]) ∧ H a1 = some (.tup (early.map V.int)) ∧ H a2 = some (.tup (rests.map V.int)) ∧
  ∀ H' v, Ex H H' → CAt H' v (calOf n q rests (.list early)) → Q v H'
theorem calOf_snoc (n q r : Int) (xs : List Int) (c : Cal) : calOf n q (xs ++ [r]) c = .pair .both (calOf n q xs c) (.every q (n + r) none) := by
  unfold calOf
  rw [List.foldl_append]
  rfl
section
variable {P : Program} {w : World} {K : PySem.W.Frag} {mg : Str → Option Value} {base : Heap}
theorem ok_endless {f fP P0 P1 : Addr} {fd fdP : FuncData} {k : Nat} (F : Fun K "is_endless" "is_endless" sEndless f fd)
    (GP : FnOk P w K mg base CX0 k fP fdP ["c"] (spPlain P0 P1)) (gP : mg "plain_calendar" = some (.ref fP)) (kP : PySem.W.keepIn K (.ref fP) = true) (bP : Binds K fdP ["c"] []) :
    FnOk P w K mg base CX0 (k + 1) f fd ["c"] (spEndless P0 P1) := by
  refine F.ok scEndless (fun vs H Q E h => ?_) (fun cdv A outer s H vs Q E hr h => ?_)
  · obtain ⟨v, c, rfl, _⟩ := h
    rfl
  · obtain ⟨v, c, rfl, hc, ok, t0, t1, fin⟩ := h
    refine ⟨_, pss_one (ps_ret (pe_cmpR (op_neD hr.units) (pe_ix ix_tup (pe_call GP hr (by rfl) gP kP bP .nil pass0 (pa_cons (pv 0) pa_nil)) pe_int (fun _ _ => rfl)) (pe_tup pa_nil) (nomark _))), ?_⟩
    refine ⟨v, rfl, v, c, rfl, hc, ok, t0, t1, fun H1 p a1 a2 n q e1 np rep nb qb hp ha1 ha2 => ?_⟩
    refine ⟨p, _, 3, .ref a2, rfl, rfl, sqT_of hp, atI_nat (j := 3) rfl, ?_⟩
    refine ⟨Nat.zero_le _, fun t nt => ?_⟩
    have e2 : Ex H1 (upd H1 t (.tup [])) := Ext.upd1 nt
    refine ⟨_, _, dpT (sqT_of (e2.tup _ _ ha2)), dpT (ns := []) (sqT_of upd_same), shT _, shT _, ?_⟩
    rw [eqvT2]
    exact fin _ n q (e1.trans e2) rep
theorem ok_calOf {f : Addr} {fd : FuncData} {k : Nat} (F : Fun K "calendar_of" "calendar_of" sCalOf f fd) : FnOk P w K mg base CX0 (k + 1) f fd ["plain"] spCalOf := by
  refine F.ok scCalOf (fun vs H Q E h => ?_) (fun cdv A outer s H vs Q E hr h => ?_)
  · obtain ⟨p, a1, a2, n, q, early, rests, rfl, _⟩ := h
    rfl
  · obtain ⟨p, a1, a2, n, q, early, rests, rfl, hp, ha1, ha2, fin⟩ := h
    have nd := scCalOf.nd
    refine ⟨_, pss_cons (ps_asg (pv 0) (pg_tup (by rfl) (pgs_cons (pg_name (i := 1) nd rfl (.inl rfl)) (pgs_cons (pg_name (i := 2) nd rfl (.inl rfl)) (pgs_cons (pg_name (i := 3) nd rfl (.inl rfl)) (pgs_cons (pg_name (i := 4) nd rfl (.inl rfl)) pgs_nil))))))
      (pss_cons (ps_set (i := 5) nd rfl (.inl rfl) (pe_tup (pa_cons pe_str (pa_cons (pv 1) pa_nil))))
      (pss_cons (ps_for PassesOwn.never rfl (pi_tup (pv 4)) (pg_name (i := 6) nd rfl (.inl rfl))
        (pss_one (ps_set (i := 5) nd rfl (.inl rfl) (pe_tup (pa_cons pe_str (pa_cons (pv 5) (pa_cons (pe_tup (pa_cons pe_str (pa_cons (pv 3) (pa_cons (pe_op op_add (pv 2) (pv 6)) (pa_cons pe_non pa_nil))))) pa_nil)))))))
      (pss_one (ps_ret (pv 5))))), ?_⟩
    refine ⟨.ref p, rfl, p, _, rfl, sqT_of hp, rfl, .ref a1, _, rfl, .int n, _, rfl, .int q, _, rfl, .ref a2, _, rfl, rfl, ?_⟩
    refine ⟨.ref a1, rfl, le2, fun t nt => ?_⟩
    have e1 : Ex H (upd H t (.tup [.str "list", .ref a1])) := Ext.upd1 nt
    have ht : CAt (upd H t (.tup [.str "list", .ref a1])) (.ref t) (.list early) := .list upd_same (e1.tup _ _ ha1)
    generalize upd H t (.tup [.str "list", .ref a1]) = H1 at *
    refine ⟨.ref a2, rfl, a2, rfl, ⟨_, sqT_of (e1.tup _ _ ha2)⟩, ?_⟩
    refine for_it (walk_tup (K := K) (a := a2) (xs := rests.map V.int)) (fun i σ H' => ∃ (cv : V) (y6 : Option V), σ = [some (.ref p), some (.ref a1), some (.int n), some (.int q), some (.ref a2), some cv, y6] ∧ Ex H1 H' ∧ CAt H' cv (calOf n q (rests.take i) (.list early)))
      ⟨.ref t, none, rfl, Ext.refl, ht⟩ (fun i σ H' _ h => by obtain ⟨_, _, _, e, _⟩ := h; exact sqT_of (e.tup _ _ (e1.tup _ _ ha2))) (fun i x σ H2 H3 hi h y => ?_) (fun σ H2 h => ?_)
    · obtain ⟨cv, y6, rfl, e2, hcv⟩ := h
      obtain ⟨rfl, hx⟩ := y
      rw [List.getElem?_map] at hx
      obtain ⟨r, hr', rfl⟩ := Option.map_eq_some_iff.mp hx
      refine ⟨cv, rfl, .int q, rfl, .int n, rfl, .int r, rfl, n, r, rfl, rfl, le4, fun t1 nt1 => ⟨le3, fun t2 nt2 => ⟨.ref t2, some (.int r), rfl, ?_, ?_⟩⟩⟩
      · exact (e2.trans (Ext.upd1 nt1)).trans (Ext.upd1 nt2)
      · have tk : rests.take (i + 1) = rests.take i ++ [r] := by rw [List.take_add_one, hr']; rfl
        rw [tk, calOf_snoc]
        have f1 : Ex H3 (upd H3 t1 (.tup [.str "every", .int q, .int (n + r), .non])) := Ext.upd1 nt1
        have f2 := Ext.upd1 (S := S0) (o := .tup [.str "both", cv, .ref t1]) nt2
        exact .pair (o := .both) upd_same ((hcv.ext f1).ext f2) (.every (e := none) (f2.tup _ _ upd_same))
    · obtain ⟨cv, y6, rfl, e2, hcv⟩ := h
      rw [List.length_map, List.take_length] at hcv
      exact ⟨cv, rfl, fin _ _ (e1.trans e2) hcv⟩
end
end Days
set_option Elab.async false
set_option linter.all false
set_option maxRecDepth 100000
set_option maxHeartbeats 4000000
namespace Days
open PySem PySem.Spec PyProof.Rows L2 Y3 Cl
theorem mild_calOf {n q : Int} (hq : 1 ≤ q ∧ q ∣ 60) : ∀ (rests : List Int) (c : Cal), Mild c 0 → (∀ r ∈ rests, 0 ≤ n + r ∧ n + r ≤ 400) → Mild (calOf n q rests c) 0
  | [], c, h, _ => h
  | r :: rs, c, h, b => mild_calOf hq rs (.pair .both c (.every q (n + r) none)) ⟨h, ⟨hq, b r (List.mem_cons_self ..), trivial⟩, Int.le_refl _, by omega⟩ fun x hx => b x (List.mem_cons_of_mem _ hx)
theorem sz_calOf {n q : Int} : ∀ (rests : List Int) (c : Cal), sz (calOf n q rests c) = sz c + 3 * rests.length
  | [], c => rfl
  | r :: rs, c => by
    have h := sz_calOf (n := n) (q := q) rs (.pair .both c (.every q (n + r) none))
    unfold calOf at h ⊢
    rw [List.foldl_cons, h, List.length_cons]
    show sz c + 1 + 2 + 3 * rs.length = _
    omega
theorem rep_b {d : Nat} {c : Cal} (g : Good d c) (hd : d ≤ 3) {n q : Int} (h : Rep c n q) : n ≤ 51 ∧ q ∣ 60 ∧ q ≤ 60 := by
  obtain ⟨t0, t1⟩ := tl_b g
  have p := per60 g
  have a := h.le t0 (by decide) p
  have b := h.dvd p (by decide)
  exact ⟨by omega, b, Int.le_of_dvd (by decide) b⟩
theorem calOf_ok {d : Nat} {c : Cal} (g : Good d c) (hd : d ≤ 3) {n q : Int} (h : Rep c n q) : CalOk (calOf n q (restsOf c n q) (.list (tms c 0 n))) 0 := by
  obtain ⟨b1, b2, b3⟩ := rep_b g hd h
  have q1 := h.q1
  have n0 := h.n0
  have l1 := tms_len_le c 0 n
  have l2 := tms_len_le c n (n + q)
  refine ⟨mild_calOf ⟨q1, b2⟩ _ _ ⟨⟨fun t ht => ?_, by omega⟩, Int.le_refl _, by omega⟩ fun r hr => ?_, ?_⟩
  · have := (mem_tms.mp ht).1
    omega
  · obtain ⟨u, hu, rfl⟩ := List.mem_map.mp hr
    have := (mem_tms.mp hu).1
    omega
  · rw [sz_calOf]
    unfold restsOf
    rw [List.length_map]
    show 1 + _ ≤ _
    omega
/-! ### displays that give calendars -/
def Gv (te : TE) (σ : L2.St) (H : Hp) (c : Cal) : Prop := ∀ H1, Ex H H1 → ∀ Q : VK, (∀ H' v, Ex H1 H' → CAt H' v c → Q v H') → te σ H1 Q
def Nv (te : TE) (σ : L2.St) (n : Int) : Prop := ∀ (H1 : Hp) (Q : VK), Q (.int n) H1 → te σ H1 Q
section
variable {σ : L2.St} {H : Hp} {c d : Cal} {t1 t2 : TE} {n m : Int}
theorem gv_var {i : Nat} {v : V} (h : σ[i]? = some (some v)) (hc : CAt H v c) : Gv (tVar i) σ H c := fun H1 e Q q => ⟨v, h, q H1 v Ext.refl (hc.ext e)⟩
theorem nv_var {i : Nat} (h : σ[i]? = some (some (.int n))) : Nv (tVar i) σ n := fun H1 Q q => ⟨.int n, h, q⟩
theorem nv_lit : Nv (tC (.int n)) σ n := fun H1 Q q => q
theorem gv_pair {o : Op} (h1 : Gv t1 σ H c) (h2 : Gv t2 σ H d) : Gv (tTup (tCons (tC (.str (opS o))) (tCons t1 (tCons t2 tNil)))) σ H (.pair o c d) := fun H1 e Q q =>
  h1 H1 e _ fun H2 v e2 hv => h2 H2 (e.trans e2) _ fun H3 u e3 hu => ⟨le3, fun p np =>
    have f : Ex H3 (upd H3 p (.tup [.str (opS o), v, u])) := Ext.upd1 np
    q _ _ ((e2.trans e3).trans f) (.pair upd_same ((hv.ext e3).ext f) (hu.ext f))⟩
theorem gv_moved (h1 : Gv t1 σ H c) (h2 : Nv t2 σ n) : Gv (tTup (tCons (tC (.str "moved")) (tCons t1 (tCons t2 tNil)))) σ H (.moved c n) := fun H1 e Q q =>
  h1 H1 e _ fun H2 v e2 hv => h2 H2 _ ⟨le3, fun p np =>
    have f : Ex H2 (upd H2 p (.tup [.str "moved", v, .int n])) := Ext.upd1 np
    q _ _ (e2.trans f) (.moved upd_same (hv.ext f))⟩
theorem gv_every (h1 : Nv t1 σ n) (h2 : Nv t2 σ m) : Gv (tTup (tCons (tC (.str "every")) (tCons t1 (tCons t2 (tCons (tC .non) tNil))))) σ H (.every n m none) := fun H1 e Q q =>
  h1 H1 _ (h2 H1 _ ⟨le4, fun p np =>
    have f : Ex H1 (upd H1 p (.tup [.str "every", .int n, .int m, .non])) := Ext.upd1 np
    q _ _ f (.every (e := none) upd_same)⟩)
/-- two calendars in a tuple -/
theorem gv_two {Q : VK} (h1 : Gv t1 σ H c) (h2 : Gv t2 σ H d) (q : ∀ H' p x y, Ex H H' → H' p = some (.tup [x, y]) → CAt H' x c → CAt H' y d → Q (.ref p) H') : tTup (tCons t1 (tCons t2 tNil)) σ H Q :=
  h1 H Ext.refl _ fun H2 v e2 hv => h2 H2 e2 _ fun H3 u e3 hu => ⟨le2, fun p np =>
    have f : Ex H3 (upd H3 p (.tup [v, u])) := Ext.upd1 np
    q _ p v u ((e2.trans e3).trans f) upd_same ((hv.ext e3).ext f) (hu.ext f)⟩
end
end Days
set_option Elab.async false
set_option linter.all false
set_option maxRecDepth 100000
set_option maxHeartbeats 4000000
namespace Days
open PySem PySem.Spec PyProof.Rows L2 Y3 Cl
def spOther : Sp := fun vs H Q _ => ∃ (d cl : Addr) (v1 v2 v3 : V) (ca cb cc : Cal), vs = [.ref d, v1, v2, v3] ∧ SrcOk H d cl ∧ CAt H v1 ca ∧ CAt H v2 cb ∧ CAt H v3 cc ∧ Good 1 ca ∧ Good 1 cb ∧ Good 1 cc ∧
  ∀ H' p x y cx cy, PEx d cl H H' → SrcOk H' d cl → H' p = some (.tup [x, y]) → CAt H' x cx → CAt H' y cy → Good 3 cx → Good 3 cy → Same cx cy → Q (.ref p) H'
theorem same0 {ca cb cc : Cal} {n : Int} : Same (.pair .both ca cb) (.pair .both cb ca) := by
  intro t ht
  simp only [Cal.has, Op.fn]
  cases ca.has t <;> cases cb.has t <;> cases cc.has t <;> rfl
theorem same1 {ca cb cc : Cal} {n : Int} : Same (.pair .common ca (.pair .both cb cc)) (.pair .both (.pair .common ca cb) (.pair .common ca cc)) := by
  intro t ht
  simp only [Cal.has, Op.fn]
  cases ca.has t <;> cases cb.has t <;> cases cc.has t <;> rfl
theorem same2 {ca cb cc : Cal} {n : Int} : Same (.pair .without ca (.pair .both cb cc)) (.pair .without (.pair .without ca cb) cc) := by
  intro t ht
  simp only [Cal.has, Op.fn]
  cases ca.has t <;> cases cb.has t <;> cases cc.has t <;> rfl
theorem same3 {ca cb cc : Cal} {n : Int} : Same (.pair .without ca (.pair .without ca cb)) (.pair .common ca cb) := by
  intro t ht
  simp only [Cal.has, Op.fn]
  cases ca.has t <;> cases cb.has t <;> cases cc.has t <;> rfl
theorem same4 {ca cb cc : Cal} {n : Int} : Same (.moved (.pair .both ca cb) n) (.pair .both (.moved ca n) (.moved cb n)) := by
  intro t ht
  simp only [Cal.has, Op.fn]
theorem same5 {ca cb cc : Cal} {n : Int} : Same (.moved (.moved ca n) 2) (.moved ca (n + 2)) := by
  intro t ht
  simp only [Cal.has, Op.fn]
  rw [show t - 2 - n = t - (n + 2) by omega]
theorem same6 {ca cb cc : Cal} {n : Int} : Same (.pair .both (.pair .common ca cb) (.pair .without ca cb)) ca := by
  intro t ht
  simp only [Cal.has, Op.fn]
  cases ca.has t <;> cases cb.has t <;> cases cc.has t <;> rfl
theorem same7 {k1 s1 : Int} (hk : 1 ≤ k1) : Same (.every k1 s1 none) (.pair .both (.every (2 * k1) s1 none) (.every (2 * k1) (s1 + k1) none)) := by
  intro t ht
  simp only [Cal.has, Op.fn, Cl.upTo, Bool.and_true]
  have a1 : ∀ x m : Int, (x % m = 0) = (m ∣ x) := fun x m => propext ⟨Int.dvd_of_emod_eq_zero, Int.emod_eq_zero_of_dvd⟩
  simp only [a1]
  rw [Bool.eq_iff_iff]
  simp only [Bool.and_eq_true, Bool.or_eq_true, decide_eq_true_eq]
  constructor
  · rintro ⟨h1, j, hj⟩
    have j0 : 0 ≤ j := by
      rcases Int.lt_or_le j 0 with g | g
      · have := Int.mul_neg_of_pos_of_neg (show 0 < k1 by omega) g
        omega
      · exact g
    rcases (show j % 2 = 0 ∨ j % 2 = 1 by omega) with g | g
    · exact .inl ⟨h1, j / 2, by rw [hj, Int.mul_comm 2 k1, Int.mul_assoc, show 2 * (j / 2) = j by omega]⟩
    · have p : k1 * 1 ≤ k1 * j := Int.mul_le_mul_of_nonneg_left (by omega) (by omega)
      refine .inr ⟨by omega, j / 2, ?_⟩
      have q : k1 * j = k1 * (2 * (j / 2)) + k1 := by
        have : j = 2 * (j / 2) + 1 := by omega
        rw (config := { occs := .pos [1] }) [this]
        rw [Int.mul_add, Int.mul_one]
      rw [Int.mul_comm 2 k1, Int.mul_assoc]
      omega
  · rintro (⟨h1, j, hj⟩ | ⟨h1, j, hj⟩)
    · exact ⟨h1, 2 * j, by rw [hj, Int.mul_comm 2 k1, Int.mul_assoc]⟩
    · refine ⟨by omega, 2 * j + 1, ?_⟩
      rw [Int.mul_add, Int.mul_one, ← Int.mul_assoc, Int.mul_comm k1 2]
      omega
theorem same8 {ca cb cc : Cal} {n : Int} : Same (.pair .both ca (.pair .common ca cb)) (.pair .common ca (.pair .both ca cb)) := by
  intro t ht
  simp only [Cal.has, Op.fn]
  cases ca.has t <;> cases cb.has t <;> cases cc.has t <;> rfl
section
variable {P : Program} {w : World} {K : PySem.W.Frag} {mg : Str → Option Value} {base : Heap}
theorem ok_other {f fP : Addr} {fd fdP : FuncData} {k : Nat} (F : Fun K "_law_otherwise" "_law_otherwise" sOther f fd)
    (GP : FnOk P w K mg base CX0 k fP fdP ["_law_source", "_law_most"] spPick) (gP : mg "_law_pick" = some (.ref fP)) (kP : PySem.W.keepIn K (.ref fP) = true) (bP : Binds K fdP ["_law_source", "_law_most"] []) :
    FnOk P w K mg base CX0 (k + 1) f fd ["_law_source", "_law_one", "_law_other", "_law_third"] spOther := by
  refine F.ok scOther (fun vs H Q E h => ?_) (fun cdv A outer s H vs Q E hr h => ?_)
  · obtain ⟨d, cl, v1, v2, v3, ca, cb, cc, rfl, _⟩ := h
    rfl
  · obtain ⟨d, cl, v1, v2, v3, ca, cb, cc, rfl, s0, hca, hcb, hcc, ga, gb, gc, fin⟩ := h
    have nd := scOther.nd
    refine ⟨_, pss_cons (ps_set (i := 4) nd rfl (.inl rfl) (pe_call GP hr (by rfl) gP kP bP .nil pass0 (pa_cons (pv 0) (pa_cons pe_int pa_nil))))
      (pss_cons (ps_set (i := 5) nd rfl (.inl rfl) (pe_op op_add pe_int (pe_call GP hr (by rfl) gP kP bP .nil pass0 (pa_cons (pv 0) (pa_cons pe_int pa_nil)))))
      (pss_cons (ps_if (pt_cmpR op_eq (pv 4) pe_int (nomark _)) (pss_one (ps_ret (pe_tup (pa_cons (pe_tup (pa_cons pe_str (pa_cons (pv 1) (pa_cons (pv 2) pa_nil)))) (pa_cons (pe_tup (pa_cons pe_str (pa_cons (pv 2) (pa_cons (pv 1) pa_nil)))) pa_nil))))) pss_nil)
      (pss_cons (ps_if (pt_cmpR op_eq (pv 4) pe_int (nomark _)) (pss_one (ps_ret (pe_tup (pa_cons (pe_tup (pa_cons pe_str (pa_cons (pv 1) (pa_cons (pe_tup (pa_cons pe_str (pa_cons (pv 2) (pa_cons (pv 3) pa_nil)))) pa_nil)))) (pa_cons (pe_tup (pa_cons pe_str (pa_cons (pe_tup (pa_cons pe_str (pa_cons (pv 1) (pa_cons (pv 2) pa_nil)))) (pa_cons (pe_tup (pa_cons pe_str (pa_cons (pv 1) (pa_cons (pv 3) pa_nil)))) pa_nil)))) pa_nil))))) pss_nil)
      (pss_cons (ps_if (pt_cmpR op_eq (pv 4) pe_int (nomark _)) (pss_one (ps_ret (pe_tup (pa_cons (pe_tup (pa_cons pe_str (pa_cons (pv 1) (pa_cons (pe_tup (pa_cons pe_str (pa_cons (pv 2) (pa_cons (pv 3) pa_nil)))) pa_nil)))) (pa_cons (pe_tup (pa_cons pe_str (pa_cons (pe_tup (pa_cons pe_str (pa_cons (pv 1) (pa_cons (pv 2) pa_nil)))) (pa_cons (pv 3) pa_nil)))) pa_nil))))) pss_nil)
      (pss_cons (ps_if (pt_cmpR op_eq (pv 4) pe_int (nomark _)) (pss_one (ps_ret (pe_tup (pa_cons (pe_tup (pa_cons pe_str (pa_cons (pv 1) (pa_cons (pe_tup (pa_cons pe_str (pa_cons (pv 1) (pa_cons (pv 2) pa_nil)))) pa_nil)))) (pa_cons (pe_tup (pa_cons pe_str (pa_cons (pv 1) (pa_cons (pv 2) pa_nil)))) pa_nil))))) pss_nil)
      (pss_cons (ps_if (pt_cmpR op_eq (pv 4) pe_int (nomark _)) (pss_one (ps_ret (pe_tup (pa_cons (pe_tup (pa_cons pe_str (pa_cons (pe_tup (pa_cons pe_str (pa_cons (pv 1) (pa_cons (pv 2) pa_nil)))) (pa_cons (pv 5) pa_nil)))) (pa_cons (pe_tup (pa_cons pe_str (pa_cons (pe_tup (pa_cons pe_str (pa_cons (pv 1) (pa_cons (pv 5) pa_nil)))) (pa_cons (pe_tup (pa_cons pe_str (pa_cons (pv 2) (pa_cons (pv 5) pa_nil)))) pa_nil)))) pa_nil))))) pss_nil)
      (pss_cons (ps_if (pt_cmpR op_eq (pv 4) pe_int (nomark _)) (pss_one (ps_ret (pe_tup (pa_cons (pe_tup (pa_cons pe_str (pa_cons (pe_tup (pa_cons pe_str (pa_cons (pv 1) (pa_cons (pv 5) pa_nil)))) (pa_cons pe_int pa_nil)))) (pa_cons (pe_tup (pa_cons pe_str (pa_cons (pv 1) (pa_cons (pe_op op_add (pv 5) pe_int) pa_nil)))) pa_nil))))) pss_nil)
      (pss_cons (ps_if (pt_cmpR op_eq (pv 4) pe_int (nomark _)) (pss_one (ps_ret (pe_tup (pa_cons (pe_tup (pa_cons pe_str (pa_cons (pe_tup (pa_cons pe_str (pa_cons (pv 1) (pa_cons (pv 2) pa_nil)))) (pa_cons (pe_tup (pa_cons pe_str (pa_cons (pv 1) (pa_cons (pv 2) pa_nil)))) pa_nil)))) (pa_cons (pv 1) pa_nil))))) pss_nil)
      (pss_cons (ps_if (pt_cmpR op_eq (pv 4) pe_int (nomark _)) (pss_cons (ps_par (i := 6) (j := 7) (by rfl) nd rfl rfl (by decide) rfl rfl (pa_cons (pe_op op_add pe_int (pe_call GP hr (by rfl) gP kP bP .nil pass0 (pa_cons (pv 0) (pa_cons pe_int pa_nil)))) (pa_cons (pe_call GP hr (by rfl) gP kP bP .nil pass0 (pa_cons (pv 0) (pa_cons pe_int pa_nil))) pa_nil)) (by rfl)) (pss_one (ps_ret (pe_tup (pa_cons (pe_tup (pa_cons pe_str (pa_cons (pv 6) (pa_cons (pv 7) (pa_cons pe_non pa_nil))))) (pa_cons (pe_tup (pa_cons pe_str (pa_cons (pe_tup (pa_cons pe_str (pa_cons (pe_op op_mul pe_int (pv 6)) (pa_cons (pv 7) (pa_cons pe_non pa_nil))))) (pa_cons (pe_tup (pa_cons pe_str (pa_cons (pe_op op_mul pe_int (pv 6)) (pa_cons (pe_op op_add (pv 7) (pv 6)) (pa_cons pe_non pa_nil))))) pa_nil)))) pa_nil)))))) pss_nil)
      (pss_one (ps_ret (pe_tup (pa_cons (pe_tup (pa_cons pe_str (pa_cons (pv 1) (pa_cons (pe_tup (pa_cons pe_str (pa_cons (pv 1) (pa_cons (pv 2) pa_nil)))) pa_nil)))) (pa_cons (pe_tup (pa_cons pe_str (pa_cons (pv 1) (pa_cons (pe_tup (pa_cons pe_str (pa_cons (pv 1) (pa_cons (pv 2) pa_nil)))) pa_nil)))) pa_nil)))))))))))))), ?_⟩
    refine ⟨.ref d, rfl, d, cl, 9, rfl, s0, by omega, fun H1 r e1 s1' r0 r1 => ?_⟩
    refine ⟨.ref d, rfl, d, cl, 4, rfl, s1', by omega, fun H2 n' e2 s2 n0 n1 => ⟨1, n', rfl, rfl, ?_⟩⟩
    have hca := (hca.ext e1).ext e2
    have hcb := (hcb.ext e1).ext e2
    have hcc := (hcc.ext e1).ext e2
    have e02 := e1.trans e2
    show gName 5 (.int (1 + n')) _ _ _
    obtain ⟨n, hn⟩ : ∃ n : Int, n = 1 + n' := ⟨_, rfl⟩
    rw [← hn]
    have nb0 : 1 ≤ n := by omega
    have nb1 : n ≤ 4 := by omega
    have out : ∀ (σ : L2.St) (cx cy : Cal) (t1 t2 : TE), Gv t1 σ H2 cx → Gv t2 σ H2 cy → Good 3 cx → Good 3 cy → Same cx cy → tTup (tCons t1 (tCons t2 tNil)) σ H2 Q := fun σ cx cy t1 t2 h1 h2 g1 g2 sm =>
      gv_two h1 h2 fun H' p x y e hp hx hy => fin H' p x y cx cy (e02.trans (Ext.of0 e)) (s2.ex e) hp hx hy g1 g2 sm
    refine ⟨.int r, rfl, rfl, _, rfl, ite2 (fun e => ?_) (fun e => ?_)⟩
    · exact out _ (.pair .both ca cb) (.pair .both cb ca) _ _ (gv_pair (o := .both) (gv_var rfl hca) (gv_var rfl hcb)) (gv_pair (o := .both) (gv_var rfl hcb) (gv_var rfl hca)) ⟨(ga.le (by decide)), (gb.le (by decide))⟩ ⟨(gb.le (by decide)), (ga.le (by decide))⟩ (same0 (ca := ca) (cb := cb) (cc := cc) (n := n))
    refine ⟨.int r, rfl, rfl, _, rfl, ite2 (fun e => ?_) (fun e => ?_)⟩
    · exact out _ (.pair .common ca (.pair .both cb cc)) (.pair .both (.pair .common ca cb) (.pair .common ca cc)) _ _ (gv_pair (o := .common) (gv_var rfl hca) (gv_pair (o := .both) (gv_var rfl hcb) (gv_var rfl hcc))) (gv_pair (o := .both) (gv_pair (o := .common) (gv_var rfl hca) (gv_var rfl hcb)) (gv_pair (o := .common) (gv_var rfl hca) (gv_var rfl hcc))) ⟨(ga.le (by decide)), ⟨(gb.le (by decide)), (gc.le (by decide))⟩⟩ ⟨⟨(ga.le (by decide)), (gb.le (by decide))⟩, ⟨(ga.le (by decide)), (gc.le (by decide))⟩⟩ (same1 (ca := ca) (cb := cb) (cc := cc) (n := n))
    refine ⟨.int r, rfl, rfl, _, rfl, ite2 (fun e => ?_) (fun e => ?_)⟩
    · exact out _ (.pair .without ca (.pair .both cb cc)) (.pair .without (.pair .without ca cb) cc) _ _ (gv_pair (o := .without) (gv_var rfl hca) (gv_pair (o := .both) (gv_var rfl hcb) (gv_var rfl hcc))) (gv_pair (o := .without) (gv_pair (o := .without) (gv_var rfl hca) (gv_var rfl hcb)) (gv_var rfl hcc)) ⟨(ga.le (by decide)), ⟨(gb.le (by decide)), (gc.le (by decide))⟩⟩ ⟨⟨(ga.le (by decide)), (gb.le (by decide))⟩, (gc.le (by decide))⟩ (same2 (ca := ca) (cb := cb) (cc := cc) (n := n))
    refine ⟨.int r, rfl, rfl, _, rfl, ite2 (fun e => ?_) (fun e => ?_)⟩
    · exact out _ (.pair .without ca (.pair .without ca cb)) (.pair .common ca cb) _ _ (gv_pair (o := .without) (gv_var rfl hca) (gv_pair (o := .without) (gv_var rfl hca) (gv_var rfl hcb))) (gv_pair (o := .common) (gv_var rfl hca) (gv_var rfl hcb)) ⟨(ga.le (by decide)), ⟨(ga.le (by decide)), (gb.le (by decide))⟩⟩ ⟨(ga.le (by decide)), (gb.le (by decide))⟩ (same3 (ca := ca) (cb := cb) (cc := cc) (n := n))
    refine ⟨.int r, rfl, rfl, _, rfl, ite2 (fun e => ?_) (fun e => ?_)⟩
    · exact out _ (.moved (.pair .both ca cb) n) (.pair .both (.moved ca n) (.moved cb n)) _ _ (gv_moved (gv_pair (o := .both) (gv_var rfl hca) (gv_var rfl hcb)) (nv_var rfl)) (gv_pair (o := .both) (gv_moved (gv_var rfl hca) (nv_var rfl)) (gv_moved (gv_var rfl hcb) (nv_var rfl))) ⟨⟨(ga.le (by decide)), (gb.le (by decide))⟩, by omega, by omega⟩ ⟨⟨(ga.le (by decide)), by omega, by omega⟩, ⟨(gb.le (by decide)), by omega, by omega⟩⟩ (same4 (ca := ca) (cb := cb) (cc := cc) (n := n))
    refine ⟨.int r, rfl, rfl, _, rfl, ite2 (fun e => ?_) (fun e => ?_)⟩
    · exact out _ (.moved (.moved ca n) 2) (.moved ca (n + 2)) _ _ (gv_moved (gv_moved (gv_var rfl hca) (nv_var rfl)) nv_lit) (gv_moved (gv_var rfl hca) (fun H1 Q q => ⟨.int n, rfl, n, 2, rfl, rfl, q⟩)) ⟨⟨(ga.le (by decide)), by omega, by omega⟩, by omega, by omega⟩ ⟨(ga.le (by decide)), by omega, by omega⟩ (same5 (ca := ca) (cb := cb) (cc := cc) (n := n))
    refine ⟨.int r, rfl, rfl, _, rfl, ite2 (fun e => ?_) (fun e => ?_)⟩
    · exact out _ (.pair .both (.pair .common ca cb) (.pair .without ca cb)) ca _ _ (gv_pair (o := .both) (gv_pair (o := .common) (gv_var rfl hca) (gv_var rfl hcb)) (gv_pair (o := .without) (gv_var rfl hca) (gv_var rfl hcb))) (gv_var rfl hca) ⟨⟨(ga.le (by decide)), (gb.le (by decide))⟩, ⟨(ga.le (by decide)), (gb.le (by decide))⟩⟩ (ga.le (by decide)) (same6 (ca := ca) (cb := cb) (cc := cc) (n := n))
    refine ⟨.int r, rfl, rfl, _, rfl, ite2 (fun e => ?_) (fun e => ?_)⟩
    · refine ⟨.ref d, rfl, d, cl, 3, rfl, s2, by omega, fun H3 k' e3 s3 k0 kb => ⟨1, k', rfl, rfl, .ref d, rfl, d, cl, 6, rfl, s3, by omega, fun H4 s1 e4 s4 sa sb => ⟨_, _, rfl, ?_⟩⟩⟩
      have e04 := (e02.trans e3).trans e4
      exact gv_two (c := (.every (1 + k') s1 none)) (d := (.pair .both (.every (2 * (1 + k')) s1 none) (.every (2 * (1 + k')) (s1 + (1 + k')) none))) (gv_every (nv_var rfl) (nv_var rfl)) (gv_pair (o := .both) (gv_every (fun H1 Q q => ⟨.int (1 + k'), rfl, 2, (1 + k'), rfl, rfl, .inl ⟨by decide, by decide⟩, q⟩) (nv_var rfl)) (gv_every (fun H1 Q q => ⟨.int (1 + k'), rfl, 2, (1 + k'), rfl, rfl, .inl ⟨by decide, by decide⟩, q⟩) (fun H1 Q q => ⟨.int s1, rfl, .int (1 + k'), rfl, s1, (1 + k'), rfl, rfl, q⟩))) fun H' p x y e hp hx hy => fin H' p x y _ _ (e04.trans (Ext.of0 e)) (s4.ex e) hp hx hy ⟨⟨by omega, by omega⟩, ⟨by omega, by omega⟩, trivial⟩ ⟨⟨⟨by omega, by omega⟩, ⟨by omega, by omega⟩, trivial⟩, ⟨⟨by omega, by omega⟩, ⟨by omega, by omega⟩, trivial⟩⟩ (same7 (by omega))
    exact out _ (.pair .both ca (.pair .common ca cb)) (.pair .common ca (.pair .both ca cb)) _ _ (gv_pair (o := .both) (gv_var rfl hca) (gv_pair (o := .common) (gv_var rfl hca) (gv_var rfl hcb))) (gv_pair (o := .common) (gv_var rfl hca) (gv_pair (o := .both) (gv_var rfl hca) (gv_var rfl hcb))) ⟨(ga.le (by decide)), ⟨(ga.le (by decide)), (gb.le (by decide))⟩⟩ ⟨(ga.le (by decide)), ⟨(ga.le (by decide)), (gb.le (by decide))⟩⟩ (same8 (ca := ca) (cb := cb) (cc := cc) (n := n))
end
end Days
set_option Elab.async false
set_option linter.all false
set_option maxRecDepth 100000
set_option maxHeartbeats 4000000
namespace Days
open PySem PySem.Spec PyProof.Rows L2 Y3 Cl
theorem plain_iff {c d : Cal} {n q m p : Int} (h : Rep c n q) (k : Rep d m p) : (tms c 0 n = tms d 0 m ∧ n = m ∧ q = p ∧ restsOf c n q = restsOf d m p) ↔ Same c d := by
  constructor
  · rintro ⟨a, rfl, rfl, b⟩
    refine same_of_plain h k a ?_
    exact (List.map_inj_right (fun x y e => by omega)).mp b
  · intro s
    obtain ⟨rfl, rfl⟩ := (s.rep h).uniq k
    exact ⟨s.tms (Int.le_refl _), rfl, rfl, by unfold restsOf; rw [s.tms h.n0]⟩
theorem un_none {c d : Cal} : ∀ {r : Option Int}, IsUn c d r → Same c d → r = none
  | none, _, _ => rfl
  | some t, h, s => absurd (s t h.1) h.2.1
theorem un_some {c d : Cal} {t : Int} (h : IsUn c d (some t)) : ¬ Same c d := fun s => h.2.1 (s t h.1)
theorem tms_before {c d : Cal} {t : Int} (h : IsUn c d (some t)) : tms c 0 t = tms d 0 t := by
  unfold tms
  exact List.filter_congr fun x hx => by
    have := mem_rng.mp hx
    exact h.2.2 x this.1 this.2
/-- a plain form as it stands in a heap -/
def PlAt (H : Hp) (v : V) (c : Cal) (n q : Int) : Prop := ∃ p a1 a2 : Addr, v = .ref p ∧ H p = some (.tup [.ref a1, .int n, .int q, .ref a2]) ∧ H a1 = some (.tup ((tms c 0 n).map V.int)) ∧ H a2 = some (.tup ((restsOf c n q).map V.int))
theorem PlAt.ext {S : Addr → Prop} {H H' : Hp} {v : V} {c : Cal} {n q : Int} (h : PlAt H v c n q) (e : Ext S H H') : PlAt H' v c n q := by
  obtain ⟨p, a1, a2, rfl, h1, h2, h3⟩ := h
  exact ⟨p, a1, a2, rfl, e.tup _ _ h1, e.tup _ _ h2, e.tup _ _ h3⟩
theorem PlAt.dp {K : PySem.W.Frag} {H : Hp} {v : V} {c : Cal} {n q : Int} (h : PlAt H v c n q) : Dp K H v (.tuple [.tuple ((tms c 0 n).map PyData.int), .int n, .int q, .tuple ((restsOf c n q).map PyData.int)]) := by
  obtain ⟨p, a1, a2, rfl, h1, h2, h3⟩ := h
  exact .tup (sqT_of h1) (.cons (dpT (sqT_of h2)) (.cons (.int n) (.cons (.int q) (.cons (dpT (sqT_of h3)) .nil))))
/-- two plain forms compared -/
theorem neP {K : PySem.W.Frag} {H : Hp} {x y : V} {c d : Cal} {n q m p : Int} {Q : VK} (hx : PlAt H x c n q) (hy : PlAt H y d m p) (h : Rep c n q) (k : Rep d m p) (s : Same c d) (r : Q (.bl false) H) : rNeD K x y H Q :=
  ⟨_, _, hx.dp, hy.dp, sh_plain _ _ _ _, sh_plain _ _ _ _, by rw [eqvP2, decide_eq_true ((plain_iff h k).mpr s)]; exact r⟩
theorem eqP {K : PySem.W.Frag} {H : Hp} {x y : V} {c d : Cal} {n q m p : Int} {Q : VK} (hx : PlAt H x c n q) (hy : PlAt H y d m p) (h : Rep c n q) (k : Rep d m p) (r : ∀ b : Bool, (b = true ↔ Same c d) → Q (.bl b) H) : rEqD K x y H Q :=
  ⟨_, _, hx.dp, hy.dp, sh_plain _ _ _ _, sh_plain _ _ _ _, r _ (by rw [eqvP2, decide_eq_true_eq]; exact plain_iff h k)⟩
section
variable {σ : L2.St} {H : Hp} {c d : Cal} {v u : V} {i j : Nat} {P0 P1 : Addr} {Q : VK}
theorem c_plain (hv : σ[i]? = some (some v)) (hc : CAt H v c) (ok : CalOk c 0) (t0 : GxR.TabG H P0) (t1 : GxR.TabG H P1) (r : ∀ H' u n q, Ex H H' → Rep c n q → PlAt H' u c n q → Q u H') : tCall (spPlain P0 P1) [] E0 (tCons (tVar i) tNil) σ H Q :=
  ⟨v, hv, v, c, rfl, hc, ok, t0, t1, fun H' p a1 a2 n q e np rep nb qb hp h1 h2 => r H' _ n q e rep ⟨p, a1, a2, rfl, hp, h1, h2⟩⟩
theorem c_lplain (hv : σ[i]? = some (some v)) (hc : CAt H v c) (g : Good 3 c) (r : ∀ H' u n q, Ex H H' → Rep c n q → PlAt H' u c n q → Q u H') : tCall (spLPlain 3) [] E0 (tCons (tVar i) tNil) σ H Q :=
  ⟨v, hv, v, c, rfl, hc, g, fun H' p a1 a2 n q e np rep hp h1 h2 => r H' _ n q e rep ⟨p, a1, a2, rfl, hp, h1, h2⟩⟩
theorem c_un (hv : σ[i]? = some (some v)) (hu : σ[j]? = some (some u)) (hc : CAt H v c) (hd : CAt H u d) (okc : CalOk c 0) (okd : CalOk d 0) (r : ∀ H' x, Ex H H' → IsUn c d x → (∀ t, x = some t → t ≤ 5000) → Q (eV x) H') : tCall spUnlike [] E0 (tCons (tVar i) (tCons (tVar j) tNil)) σ H Q :=
  ⟨v, hv, u, hu, v, u, c, d, rfl, hc, hd, okc, okd, r⟩
end
theorem cat_new {H : Hp} {D : Addr} {xs ys : List V} {v : V} {c : Cal} (hD : H D = some (.lst xs)) (h : CAt H v c) : CAt (upd H D (.lst ys)) v c :=
  h.ext ((Ext.refl (S := fun b => b = D)).updS rfl hD (fun _ z => by cases z) (fun _ z => by cases z))
theorem eV_non {x : Option Int} : decide (eV x = V.non) = decide (x = none) := by
  cases x <;> simp [eV]
end Days
set_option Elab.async false
set_option linter.all false
set_option maxRecDepth 100000
set_option maxHeartbeats 16000000
namespace Days
open PySem PySem.Spec PyProof.Rows L2 Y3 Cl
abbrev nLaw52 : List Str := ["_law_script", "_law_source", "_law_lap", "_law_some", "_law_here", "_law_there", "_law_pairs", "_law_one", "_law_other", "_law_plain_here", "_law_late", "_law_told", "_law_turn"]
theorem scLaw52 : FnScope nLaw52 ["_law_script"] (defScope sLaw) := ⟨rfl, rfl, rfl, by decide +kernel, rfl, by decide +kernel, by decide +kernel⟩
/-- a def that is called: where it stands, its promise -/
structure Callee (P : Program) (w : World) (K : PySem.W.Frag) (mg : Str → Option Value) (base : Heap) (k : Nat) (x : Str) (ps : List Str) (sp : Sp) (f : Addr) (fd : FuncData) : Prop where
  G : FnOk P w K mg base CX0 k f fd ps sp
  m : mg x = some (.ref f)
  kp : PySem.W.keepIn K (.ref f) = true
  b : Binds K fd ps []
theorem dne (x : V) : (!decide (x = x)) = false := by simp
/-- if x is not None and .. -/
theorem if_and {σ : L2.St} {H : Hp} {i : Nat} {r : Option Int} {te : TE} {A : TS} {D : Ends} (h : σ[i]? = some (some (eV r))) (some' : ∀ t, r = some t → ∀ Q : VK, (∀ H', Ex H H' → Q (.bl false) H') → te σ H Q) (next : ∀ H', Ex H H' → D.nx σ H') :
    tIfS (tAnd (tTest (tOp (fun x y H Q => y = .non ∧ Q (.bl (!decide (x = .non))) H) (tVar i) (tC .non))) (tTest te)) A tNext D σ H := by
  refine ⟨eV r, h, rfl, _, rfl, ?_⟩
  rw [eV_non]
  cases r with
  | none => exact iteF (iteF (next H Ext.refl))
  | some t => exact iteT (some' t rfl _ fun H' e => ⟨false, rfl, iteF (next H' e)⟩)
def PairAt (H : Hp) (x : V) : Prop := ∃ (T : Addr) (v u : V) (c d : Cal), x = .ref T ∧ H T = some (.tup [v, u]) ∧ CAt H v c ∧ CAt H u d ∧ Good 3 c ∧ Good 3 d
theorem PairAt.ext {S : Addr → Prop} {H H' : Hp} {x : V} (h : PairAt H x) (e : Ext S H H') : PairAt H' x := by
  obtain ⟨T, v, u, c, d, rfl, h1, h2, h3, g1, g2⟩ := h
  exact ⟨T, v, u, c, d, rfl, e.tup _ _ h1, h2.ext e, h3.ext e, g1, g2⟩
section
variable {P : Program} {w : World} {K : PySem.W.Frag} {mg : Str → Option Value} {base : Heap}
theorem ok_law52 {f P0 P1 fO fD fT fL fP fU fC fH fG fI fE fR : Addr} {fd dO dD dT dL dP dU dC dH dG dI dE dR : FuncData} {k : Nat} (F : Fun K "law" "law" sLaw f fd)
    (O : Callee P w K mg base k "_law_open_cells" ["_law_script"] (spOpen K) fO dO) (D : Callee P w K mg base k "_law_draw_calendar" ["_law_source", "_law_depth"] (spDraw 2) fD dD)
    (OT : Callee P w K mg base k "_law_otherwise" ["_law_source", "_law_one", "_law_other", "_law_third"] spOther fT dT) (LP : Callee P w K mg base k "_law_plain" ["_law_calendar"] (spLPlain 3) fL dL) (PL : Callee P w K mg base k "plain_calendar" ["c"] (spPlain P0 P1) fP dP)
    (FU : Callee P w K mg base k "first_unlike" ["c", "d"] spUnlike fU dU) (CO : Callee P w K mg base k "calendar_of" ["plain"] spCalOf fC dC) (HT : Callee P w K mg base k "has_time" ["c", "t"] spHas fH dH)
    (LH : Callee P w K mg base k "_law_has" ["_law_calendar", "_law_time"] (spLHas 4) fG dG) (TI : Callee P w K mg base k "times_in" ["c", "low", "high"] (spTimes P0) fI dI) (IE : Callee P w K mg base k "is_endless" ["c"] (spEndless P0 P1) fE dE)
    (RE : Callee P w K mg base k "repeats" ["c"] spRepeats fR dR) (mr : mg "range" = none) :
    FnOk P w K mg base CX0 (k + 1) f fd ["_law_script"] (spLaw K P0 P1) := by
  refine F.ok scLaw52 (fun vs H Q E h => ?_) (fun cdv A outer s H vs Q E hr h => ?_)
  · obtain ⟨a, ns, rfl, _⟩ := h
    rfl
  · obtain ⟨a, ns, rfl, ha, hn, tb0, tb1, q⟩ := h
    have nd := scLaw52.nd
    refine ⟨_, (pss_cons (ps_set (i := 1) nd rfl (.inr rfl) (pe_call O.G hr (by rfl) O.m O.kp O.b .nil pass0 (pa_cons (pv 0) pa_nil)))
      (pss_cons (ps_for PassesOwn.never rfl (pi_range1 rfl mr (pa_cons pe_int pa_nil)) (pg_name (i := 2) nd rfl (.inl rfl))
      (pss_cons (ps_setLc (i := 3) (own := [("_law_turn", 12)]) (g := gName 12) (tt := tYes) rfl nd rfl rfl (sw_true rfl rfl rfl (by decide +kernel)) (pi_range1 rfl mr (pa_cons pe_int pa_nil)) (blkOk_by (N := nLaw52) (sc := defScope sLaw) (by decide +kernel)) (fun _ _ _ _ _ => pg_name (i := 12) nd rfl (.inl rfl)) (fun _ _ _ _ _ => pts_nil) (fun _ _ _ _ _ => (pe_call D.G hr (by rfl) D.m D.kp D.b .nil pass0 (pa_cons (pv 1) (pa_cons pe_int pa_nil)))))
      (pss_cons (ps_asg (pe_call OT.G hr (by rfl) OT.m OT.kp OT.b .nil pass0 (pa_cons (pv 1) (pa_cons (pe_ix ix_list (pv 3) pe_int (fun _ _ => rfl)) (pa_cons (pe_ix ix_list (pv 3) pe_int (fun _ _ => rfl)) (pa_cons (pe_ix ix_list (pv 3) pe_int (fun _ _ => rfl)) pa_nil))))) (pg_pair (i := 4) (j := 5) nd rfl rfl rfl rfl rfl))
      (pss_cons (ps_if (PW.pt (pw_or (pt_cmpR (op_neD hr.units) (pe_call PL.G hr (by rfl) PL.m PL.kp PL.b .nil pass0 (pa_cons (pv 4) pa_nil)) (pe_call LP.G hr (by rfl) LP.m LP.kp LP.b .nil pass0 (pa_cons (pv 4) pa_nil)) (nomark _)) (pw_or1 (pt_cmpR (op_neD hr.units) (pe_call PL.G hr (by rfl) PL.m PL.kp PL.b .nil pass0 (pa_cons (pv 5) pa_nil)) (pe_call PL.G hr (by rfl) PL.m PL.kp PL.b .nil pass0 (pa_cons (pv 4) pa_nil)) (nomark _))))) (pss_one (ps_ret pe_bl)) pss_nil)
      (pss_cons (ps_if (pt_cmpR op_notN (pe_call FU.G hr (by rfl) FU.m FU.kp FU.b .nil pass0 (pa_cons (pv 4) (pa_cons (pv 5) pa_nil))) pe_non (nomark _)) (pss_one (ps_ret pe_bl)) pss_nil)
      (pss_cons (ps_if (pt_cmpR op_notN (pe_call FU.G hr (by rfl) FU.m FU.kp FU.b .nil pass0 (pa_cons (pe_call CO.G hr (by rfl) CO.m CO.kp CO.b .nil pass0 (pa_cons (pe_call PL.G hr (by rfl) PL.m PL.kp PL.b .nil pass0 (pa_cons (pv 4) pa_nil)) pa_nil)) (pa_cons (pv 5) pa_nil))) pe_non (nomark _)) (pss_one (ps_ret pe_bl)) pss_nil)
      (pss_cons (ps_set (i := 6) nd rfl (.inl rfl) (pe_lst (pa_cons (pe_tup (pa_cons (pe_ix ix_list (pv 3) pe_int (fun _ _ => rfl)) (pa_cons (pe_ix ix_list (pv 3) pe_int (fun _ _ => rfl)) pa_nil))) (pa_cons (pe_tup (pa_cons (pv 4) (pa_cons (pe_ix ix_list (pv 3) pe_int (fun _ _ => rfl)) pa_nil))) (pa_cons (pe_tup (pa_cons (pe_ix ix_list (pv 3) pe_int (fun _ _ => rfl)) (pa_cons (pe_tup (pa_cons pe_str (pa_cons (pe_ix ix_list (pv 3) pe_int (fun _ _ => rfl)) (pa_cons (pe_tup (pa_cons pe_str (pa_cons (pe_tup (pa_cons pe_int pa_nil)) pa_nil))) pa_nil)))) pa_nil))) pa_nil)))))
      (pss_one (ps_for PassesOwn.never rfl (pi_list (pv 6)) (pg_pair (i := 7) (j := 8) nd rfl rfl rfl rfl rfl)
      (pss_cons (ps_par (i := 9) (j := 10) (by rfl) nd rfl rfl (by decide) rfl rfl (pa_cons (pe_call LP.G hr (by rfl) LP.m LP.kp LP.b .nil pass0 (pa_cons (pv 7) pa_nil)) (pa_cons (pe_call LP.G hr (by rfl) LP.m LP.kp LP.b .nil pass0 (pa_cons (pv 8) pa_nil)) pa_nil)) (by rfl))
      (pss_cons (ps_set (i := 11) nd rfl (.inl rfl) (pe_call FU.G hr (by rfl) FU.m FU.kp FU.b .nil pass0 (pa_cons (pv 7) (pa_cons (pv 8) pa_nil))))
      (pss_cons (ps_if (PW.pt (pw_or (pt_cmpR (op_neD hr.units) (pe_call PL.G hr (by rfl) PL.m PL.kp PL.b .nil pass0 (pa_cons (pv 7) pa_nil)) (pv 9) (nomark _)) (pw_or (pt_cmpR (op_neD hr.units) (pe_call PL.G hr (by rfl) PL.m PL.kp PL.b .nil pass0 (pa_cons (pv 8) pa_nil)) (pv 10) (nomark _)) (pw_or1 (pt_cmpR op_ne (pe_cmpR op_isN (pv 11) pe_non (nomark _)) (pe_cmpR (op_eqD hr.units) (pv 9) (pv 10) (nomark _)) (nomark _)))))) (pss_one (ps_ret pe_bl)) pss_nil)
      (pss_cons (ps_if (PW.pt (pw_and (pt_cmpR op_notN (pv 11) pe_non (nomark _)) (pw_and1 (pt_cmpR op_eq (pe_call HT.G hr (by rfl) HT.m HT.kp HT.b .nil pass0 (pa_cons (pv 7) (pa_cons (pv 11) pa_nil))) (pe_call HT.G hr (by rfl) HT.m HT.kp HT.b .nil pass0 (pa_cons (pv 8) (pa_cons (pv 11) pa_nil))) (nomark _))))) (pss_one (ps_ret pe_bl)) pss_nil)
      (pss_cons (ps_if (PW.pt (pw_and (pt_cmpR op_notN (pv 11) pe_non (nomark _)) (pw_and1 (pt_cmpR op_eq (pe_call LH.G hr (by rfl) LH.m LH.kp LH.b .nil pass0 (pa_cons (pv 7) (pa_cons (pv 11) pa_nil))) (pe_call LH.G hr (by rfl) LH.m LH.kp LH.b .nil pass0 (pa_cons (pv 8) (pa_cons (pv 11) pa_nil))) (nomark _))))) (pss_one (ps_ret pe_bl)) pss_nil)
      (pss_cons (ps_if (PW.pt (pw_and (pt_cmpR op_notN (pv 11) pe_non (nomark _)) (pw_and1 (pt_cmpR (op_neD hr.units) (pe_call TI.G hr (by rfl) TI.m TI.kp TI.b .nil pass0 (pa_cons (pv 7) (pa_cons pe_int (pa_cons (pv 11) pa_nil)))) (pe_call TI.G hr (by rfl) TI.m TI.kp TI.b .nil pass0 (pa_cons (pv 8) (pa_cons pe_int (pa_cons (pv 11) pa_nil)))) (nomark _))))) (pss_one (ps_ret pe_bl)) pss_nil)
      (pss_one (ps_if (PW.pt (pw_or (pt_cmpR op_ne (pe_call IE.G hr (by rfl) IE.m IE.kp IE.b .nil pass0 (pa_cons (pv 7) pa_nil)) (pe_cmpR (op_neD hr.units) (pe_ix ix_tup (pv 9) pe_int (fun _ _ => rfl)) (pe_tup pa_nil) (nomark _)) (nomark _)) (pw_or1 (pt_cmpR (op_neD hr.units) (pe_call RE.G hr (by rfl) RE.m RE.kp RE.b .nil pass0 (pa_cons (pv 7) pa_nil)) (pe_slice sl_tup (pv 9) (po_some pe_int) (po_some pe_int)) (nomark _))))) (pss_one (ps_ret pe_bl)) pss_nil)))))))))))))))))
      (pss_one (ps_ret pe_bl)))), ?_⟩
    refine ⟨.ref a, rfl, a, ns, rfl, ha, hn, fun H0 d cl e0 _ _ s0 => ?_⟩
    refine ⟨2, rfl, by decide, by decide, ?_⟩
    refine for_range (lo := 0) (n := 2) (fun _ σ H' => ∃ y2 y3 y4 y5 y6 y7 y8 y9 y10 y11 : Option V, σ = [some (.ref a), some (.ref d), y2, y3, y4, y5, y6, y7, y8, y9, y10, y11, none] ∧ SrcOk H' d cl ∧ GxR.TabG H' P0 ∧ GxR.TabG H' P1)
      ⟨none, none, none, none, none, none, none, none, none, none, rfl, s0, e0.tab _ tb0, e0.tab _ tb1⟩ (fun lap σ H1 _ h => ?_) (fun σ H1 h => q H1)
    obtain ⟨y2, y3, y4, y5, y6, y7, y8, y9, y10, y11, rfl, s1, g0, g1⟩ := h
    -- three calendars
    refine ⟨3, rfl, by decide, by decide, fun D3 nD3 => ?_⟩
    obtain ⟨l1, l2, l3⟩ := Src.nd s1 nD3
    refine lc_it (walk_range (lo := 0) (n := 3)) (fun i H' => PEx d cl H1 H' ∧ SrcOk H' d cl ∧ ∃ vs : List V, H' D3 = some (.lst vs) ∧ vs.length = i ∧ ∀ v ∈ vs, ∃ c, CAt H' v c ∧ Good 1 c)
      ⟨Ext.refl.updN nD3, s1.upd l1 l2, [], upd_same, rfl, fun _ z => nomatch z⟩ (fun _ _ _ _ => trivial) (fun i x H3 H4 hlt h y => ?_) (fun H2 h => ?_)
    · obtain ⟨e3, s3, vs, hD, hl, hv⟩ := h
      obtain ⟨rfl, rfl⟩ := y
      refine ⟨rfl, tYes_ok ⟨.ref d, rfl, d, cl, 1, rfl, s3, by decide, fun H5 v c e5 s5 hc gd => ?_⟩⟩
      have hD5 := e5.lst l3 hD
      refine ⟨vs, hD5, few (by omega), (e3.trans e5).updN nD3, s5.upd l1 l2, vs ++ [v], upd_same, by rw [List.length_append, hl]; rfl, fun u hu => ?_⟩
      rcases List.mem_append.mp hu with z | z
      · obtain ⟨c', h1, h2⟩ := hv u z
        exact ⟨c', cat_new hD5 (h1.ext e5), h2⟩
      · rw [List.mem_singleton.mp z]
        exact ⟨c, cat_new hD5 hc, gd⟩
    obtain ⟨e2, s2, vs, hD, hl, hv⟩ := h
    obtain ⟨v1, v2, v3, rfl⟩ : ∃ v1 v2 v3, vs = [v1, v2, v3] := by
      match vs, hl with
      | [v1, v2, v3], _ => exact ⟨v1, v2, v3, rfl⟩
    obtain ⟨c1, hc1, gd1⟩ := hv v1 (by simp)
    obtain ⟨c2, hc2, gd2⟩ := hv v2 (by simp)
    obtain ⟨c3, hc3, gd3⟩ := hv v3 (by simp)
    clear hv hl
    -- the same times otherwise
    refine ⟨.ref d, rfl, .ref D3, rfl, D3, _, 0, v1, rfl, rfl, sqL_of hD, atI_nat (j := 0) rfl, .ref D3, rfl, D3, _, 1, v2, rfl, rfl, sqL_of hD, atI_nat (j := 1) rfl, .ref D3, rfl, D3, _, 2, v3, rfl, rfl, sqL_of hD, atI_nat (j := 2) rfl, ?_⟩
    refine ⟨d, cl, v1, v2, v3, c1, c2, c3, rfl, s2, hc1, hc2, hc3, gd1, gd2, gd3, fun H3 p x y cx cy e3 s3 hp hx hy gx gy sm => ?_⟩
    refine ⟨p, _, rfl, sqT_of hp, rfl, x, _, rfl, y, _, rfl, rfl, ?_⟩
    have hD3 := e3.lst l3 hD
    have hc1 := hc1.ext e3
    have hc2 := hc2.ext e3
    have hc3 := hc3.ext e3
    have g03 := e3.tab _ (e2.tab _ g0)
    have g13 := e3.tab _ (e2.tab _ g1)
    clear hp hD e3 e2 s2
    have okx := calOk_of_good gx (by decide)
    have oky := calOk_of_good gy (by decide)
    -- plain forms
    refine c_plain (i := 4) rfl hx okx g03 g13 fun H4 u4 n4 q4 e4 r4 p4 => ?_
    refine c_lplain (i := 4) rfl (hx.ext e4) gx fun H5 u5 n5 q5 e5 r5 p5 => ?_
    refine neP (p4.ext e5) p5 r4 r5 Same.refl ⟨_, rfl, iteF ?_⟩
    have e35 := e4.trans e5
    refine c_plain (i := 5) rfl (hy.ext e35) oky (e35.tab _ g03) (e35.tab _ g13) fun H6 u6 n6 q6 e6 r6 p6 => ?_
    have e36 := e35.trans e6
    refine c_plain (i := 4) rfl (hx.ext e36) okx (e36.tab _ g03) (e36.tab _ g13) fun H7 u7 n7 q7 e7 r7 p7 => ?_
    refine neP (p6.ext e7) p7 r6 r7 sm.symm ⟨_, rfl, iteF ?_⟩
    have e37 := e36.trans e7
    clear p4 p5 p6 p7 r4 r5 r6 r7 e4 e5 e35 e6 e36 e7
    -- nothing parts them
    refine c_un (i := 4) (j := 5) rfl rfl (hx.ext e37) (hy.ext e37) okx oky fun H8 r8 e8 un8 _ => ⟨rfl, _, rfl, ?_⟩
    obtain rfl := un_none un8 sm
    rw [eV_non, decide_eq_true rfl]
    refine iteF ?_
    have e38 := e37.trans e8
    refine c_plain (i := 4) rfl (hx.ext e38) okx (e38.tab _ g03) (e38.tab _ g13) fun H9 u9 n9 q9 e9 r9 p9 => ?_
    obtain ⟨b9, a1, a2, rfl, z1, z2, z3⟩ := p9
    have e39 := e38.trans e9
    refine ⟨b9, a1, a2, n9, q9, _, _, rfl, z1, z2, z3, fun H10 v10 e10 hc10 => ?_⟩
    have e310 := e39.trans e10
    refine ⟨y, rfl, v10, y, _, cy, rfl, hc10, hy.ext e310, calOf_ok gx (by decide) r9, oky, fun H11 r11 e11 un11 _ => ⟨rfl, _, rfl, ?_⟩⟩
    obtain rfl := un_none un11 ((calOf_same r9).trans sm)
    rw [eV_non, decide_eq_true rfl]
    refine iteF ?_
    have e311 := e310.trans e11
    have hx := hx.ext e311
    have hy := hy.ext e311
    have hc1 := hc1.ext e311
    have hc2 := hc2.ext e311
    have hc3 := hc3.ext e311
    have g011 := e311.tab _ g03
    have g111 := e311.tab _ g13
    have hD := e311.lst not0 hD3
    have s11 := s3.ex e311
    clear e37 un8 e8 e38 e9 z1 z2 z3 r9 e39 e10 hc10 e310 un11 e11 e311 hD3 g03 g13 s3
    -- the pairs
    refine ⟨.ref D3, rfl, D3, _, 0, v1, rfl, rfl, sqL_of hD, atI_nat (j := 0) rfl, .ref D3, rfl, D3, _, 1, v2, rfl, rfl, sqL_of hD, atI_nat (j := 1) rfl, le2, fun T1 nT1 => ?_⟩
    have f1 : Ex H11 (upd H11 T1 (.tup [v1, v2])) := Ext.upd1 nT1
    have w1 : PairAt (upd H11 T1 (.tup [v1, v2])) (.ref T1) := ⟨T1, v1, v2, c1, c2, rfl, upd_same, hc1.ext f1, hc2.ext f1, gd1.le (by decide), gd2.le (by decide)⟩
    have hD1 := f1.lst not0 hD
    generalize upd H11 T1 (.tup [v1, v2]) = G1 at *
    refine ⟨x, rfl, .ref D3, rfl, D3, _, 2, v3, rfl, rfl, sqL_of hD1, atI_nat (j := 2) rfl, le2, fun T2 nT2 => ?_⟩
    have f2 : Ex G1 (upd G1 T2 (.tup [x, v3])) := Ext.upd1 nT2
    have w2 : PairAt (upd G1 T2 (.tup [x, v3])) (.ref T2) := ⟨T2, x, v3, cx, c3, rfl, upd_same, (hx.ext f1).ext f2, (hc3.ext f1).ext f2, gx, gd3.le (by decide)⟩
    have hD2 := f2.lst not0 hD1
    generalize upd G1 T2 (.tup [x, v3]) = G2 at *
    refine ⟨.ref D3, rfl, D3, _, 1, v2, rfl, rfl, sqL_of hD2, atI_nat (j := 1) rfl, .ref D3, rfl, D3, _, 1, v2, rfl, rfl, sqL_of hD2, atI_nat (j := 1) rfl, le1, fun T3 nT3 => ⟨le2, fun T4 nT4 => ⟨le3, fun T5 nT5 => ⟨le2, fun T6 nT6 => ⟨le3, fun L nL => ?_⟩⟩⟩⟩⟩
    have f3 : Ex G2 (upd G2 T3 (.tup [.int 11])) := Ext.upd1 nT3
    have f4 := Ext.upd1 (S := S0) (o := .tup [.str "list", .ref T3]) nT4
    have k4 : CAt (upd (upd G2 T3 (.tup [.int 11])) T4 (.tup [.str "list", .ref T3])) (.ref T4) (.list [11]) := .list upd_same (f4.tup _ _ upd_same)
    have f5 := Ext.upd1 (S := S0) (o := .tup [.str "without", v2, .ref T4]) nT5
    have f25 := (f3.trans f4).trans f5
    have hc2' := ((hc2.ext f1).ext f2).ext f25
    have k5 : CAt (upd (upd (upd G2 T3 (.tup [.int 11])) T4 (.tup [.str "list", .ref T3])) T5 (.tup [.str "without", v2, .ref T4])) (.ref T5) (.pair .without c2 (.list [11])) := .pair (o := .without) upd_same hc2' (k4.ext f5)
    generalize upd (upd (upd G2 T3 (.tup [.int 11])) T4 (.tup [.str "list", .ref T3])) T5 (.tup [.str "without", v2, .ref T4]) = G5 at *
    have f6 : Ex G5 (upd G5 T6 (.tup [v2, .ref T5])) := Ext.upd1 nT6
    have w3 : PairAt (upd G5 T6 (.tup [v2, .ref T5])) (.ref T6) := ⟨T6, v2, .ref T5, c2, _, rfl, upd_same, hc2'.ext f6, k5.ext f6, gd2.le (by decide), ⟨gd2.le (by decide), ⟨fun t ht => by rw [List.mem_singleton.mp ht]; decide, by decide⟩⟩⟩
    have f26 := f25.trans f6
    generalize upd G5 T6 (.tup [v2, .ref T5]) = G6 at *
    have f7 : Ex G6 (upd G6 L (.lst [.ref T1, .ref T2, .ref T6])) := Ext.upd1 nL
    have hL : upd G6 L (.lst [.ref T1, .ref T2, .ref T6]) L = some (.lst [.ref T1, .ref T2, .ref T6]) := upd_same
    have f17 := (f1.trans (f2.trans f26)).trans f7
    have all : ∀ z ∈ [V.ref T1, .ref T2, .ref T6], PairAt (upd G6 L (.lst [.ref T1, .ref T2, .ref T6])) z := fun z hz => by
      simp only [List.mem_cons, List.not_mem_nil, or_false] at hz
      rcases hz with rfl | rfl | rfl
      · exact ((w1.ext f2).ext f26).ext f7
      · exact (w2.ext f26).ext f7
      · exact w3.ext f7
    generalize upd G6 L (.lst [.ref T1, .ref T2, .ref T6]) = H12 at *
    have s12 := s11.ex f17
    have g012 := f17.tab _ g011
    have g112 := f17.tab _ g111
    clear f1 f2 f3 f4 f5 f25 f6 f26 f7 f17 w1 w2 w3 k4 k5 hc2' hD1 hD2 hD nT1 nT2 nT3 nT4 nT5 nT6 nL s11 g011 g111
    refine ⟨.ref L, rfl, L, rfl, ⟨_, sqL_of hL⟩, ?_⟩
    refine for_it (walk_list (K := K) (a := L) (xs := [.ref T1, .ref T2, .ref T6])) (fun _ σ H' => ∃ y7 y8 y9 y10 y11 : Option V, σ = [some (.ref a), some (.ref d), some (.int (0 + (lap : Nat))), some (.ref D3), some x, some y, some (.ref L), y7, y8, y9, y10, y11, none] ∧ Ex H12 H')
      ⟨_, _, _, _, _, rfl, Ext.refl⟩ (fun i σ H' _ h => by obtain ⟨_, _, _, _, _, _, e⟩ := h; exact sqL_of (e.lst not0 hL)) (fun i z σ H13 H14 hi h yz => ?_) (fun σ H13 h => ?_)
    rotate_left
    · obtain ⟨y7, y8, y9, y10, y11, rfl, e⟩ := h
      exact ⟨_, _, _, _, _, _, _, _, _, _, rfl, s12.ex e, e.tab _ g012, e.tab _ g112⟩
    obtain ⟨y7, y8, y9, y10, y11, rfl, e13⟩ := h
    obtain ⟨rfl, hz⟩ := yz
    obtain ⟨T, v, u, c, b, rfl, hT, hc, hb, gc, gb⟩ := (all z (List.mem_of_getElem? hz)).ext e13
    have g0A := e13.tab _ g012
    have g1A := e13.tab _ g112
    have okc := calOk_of_good gc (by decide)
    have okb := calOk_of_good gb (by decide)
    refine ⟨T, _, rfl, sqT_of hT, rfl, v, _, rfl, u, _, rfl, rfl, ?_⟩
    -- their plain forms, told by the law; what parts them
    refine c_lplain (i := 7) rfl hc gc fun H15 b1 n q1 e15 rc pc => ?_
    refine c_lplain (i := 8) rfl (hb.ext e15) gb fun H16 b2 m q2 e16 rb pb => ⟨_, _, rfl, ?_⟩
    have e46 := e15.trans e16
    refine c_un (i := 7) (j := 8) rfl rfl (hc.ext e46) (hb.ext e46) okc okb fun H17 r e17 un low => ?_
    have e47 := e46.trans e17
    have pc := (pc.ext e16).ext e17
    have pb := pb.ext e17
    refine c_plain (i := 7) rfl (hc.ext e47) okc (e47.tab _ g0A) (e47.tab _ g1A) fun H18 u18 n18 q18 e18 r18 p18 => ⟨b1, rfl, neP p18 (pc.ext e18) r18 rc Same.refl ⟨_, rfl, iteF ?_⟩⟩
    have e48 := e47.trans e18
    refine c_plain (i := 8) rfl (hb.ext e48) okb (e48.tab _ g0A) (e48.tab _ g1A) fun H19 u19 n19 q19 e19 r19 p19 => ⟨b2, rfl, neP p19 ((pb.ext e18).ext e19) r19 rb Same.refl ⟨_, rfl, iteF ?_⟩⟩
    have e49 := e48.trans e19
    have pc := (pc.ext e18).ext e19
    have pb := (pb.ext e18).ext e19
    refine ⟨eV r, rfl, rfl, b1, rfl, b2, rfl, eqP pc pb rc rb fun k hk => ⟨rfl, _, rfl, ?_⟩⟩
    have ek : decide (r = none) = k := by
      cases r with
      | none => rw [hk.mpr un]; rfl
      | some t =>
        cases k with
        | true => exact absurd (hk.mp rfl) (un_some un)
        | false => rfl
    rw [eV_non, dec_bl, ek, decide_eq_true rfl]
    refine iteF ?_
    have hc := hc.ext e49
    have hb := hb.ext e49
    have g0B := e49.tab _ g0A
    have g1B := e49.tab _ g1A
    have e1319 := e13.trans e49
    clear ek hk e15 e16 e46 e17 e47 e18 r18 p18 e48 e19 r19 p19 e49
    -- just ahead of it they are alike
    refine if_and (i := 11) (r := r) rfl (fun t ht Q k => ?_) fun H20 e20 => ?_
    · subst ht
      have b0 : 0 ≤ t ∧ t ≤ 1000000 := ⟨un.1, by have := low t rfl; omega⟩
      exact ⟨v, rfl, .int t, rfl, v, c, t, rfl, hc, okc, b0, fun H' e' => ⟨u, rfl, .int t, rfl, u, b, t, rfl, hb.ext e', okb, b0, fun H'' e'' => ⟨rfl, by rw [dec_bl, decide_eq_false un.2.1]; exact k _ (e'.trans e'')⟩⟩⟩
    have hc := hc.ext e20
    have hb := hb.ext e20
    refine if_and (i := 11) (r := r) rfl (fun t ht Q k => ?_) fun H21 e21 => ?_
    · subst ht
      exact ⟨v, rfl, .int t, rfl, v, c, t, 3, rfl, hc, gc, by decide, fun H' e' => ⟨u, rfl, .int t, rfl, u, b, t, 3, rfl, hb.ext e', gb, by decide, fun H'' e'' => ⟨rfl, by rw [dec_bl, decide_eq_false un.2.1]; exact k _ (e'.trans e'')⟩⟩⟩
    have hc := hc.ext e21
    have hb := hb.ext e21
    have g0C := e21.tab _ (e20.tab _ g0B)
    have g1C := e21.tab _ (e20.tab _ g1B)
    refine if_and (i := 11) (r := r) rfl (fun t ht Q k => ?_) fun H22 e22 => ?_
    · subst ht
      have t0 : 0 ≤ t := un.1
      have t1 := low t rfl
      have fit : FitsM 0 t := ⟨by omega, by omega, by omega, by omega, by omega⟩
      exact ⟨v, rfl, .int t, rfl, v, c, 0, t, rfl, hc, okc, fit, g0C, fun H' p' e' np hp => ⟨u, rfl, .int t, rfl, u, b, 0, t, rfl, hb.ext e', okb, fit, e'.tab _ g0C, fun H'' p'' e'' np' hp' =>
        ⟨_, _, dpT (sqT_of (e''.tup _ _ hp)), dpT (sqT_of hp'), shT _, shT _, by rw [tms_before un, eqvT2, decide_eq_true rfl]; exact k _ (e'.trans e'')⟩⟩⟩
    have hc := hc.ext e22
    have e1922 := (e20.trans e21).trans e22
    have pc := pc.ext e1922
    obtain ⟨pA, a1, a2, rfl, z1, z2, z3⟩ := pc
    -- endless, repeating
    refine ⟨v, rfl, v, c, rfl, hc, okc, e22.tab _ g0C, e22.tab _ g1C, fun H23 n' q' e23 r23 => ?_⟩
    obtain ⟨rfl, rfl⟩ := rc.uniq r23
    refine ⟨.ref pA, rfl, pA, _, 3, .ref a2, rfl, rfl, sqT_of (e23.tup _ _ z1), atI_nat (j := 3) rfl, Nat.zero_le _, fun t nt => ?_⟩
    have e24 : Ex H23 (upd H23 t (.tup [])) := Ext.upd1 nt
    refine ⟨_, _, dpT (sqT_of (e24.tup _ _ (e23.tup _ _ z3))), dpT (ns := []) (sqT_of upd_same), shT _, shT _, rfl, _, rfl, ?_⟩
    rw [eqvT2, dec_bl, decide_eq_true rfl]
    refine iteF ?_
    have e224 := e23.trans e24
    refine ⟨v, rfl, v, c, rfl, hc.ext e224, okc, fun H25 p25 n' q' e25 np r25 _ _ hp => ?_⟩
    obtain ⟨rfl, rfl⟩ := rc.uniq r25
    refine ⟨.ref pA, rfl, 1, rfl, 3, rfl, pA, _, rfl, sqT_of (e25.tup _ _ (e224.tup _ _ z1)), (show ¬ (_root_.HT.sIx 4 0 (some 1) = 0 ∧ _root_.HT.sIx 4 4 (some 3) = 4) by decide), fun p3 np3 => ?_⟩
    have e26 : Ex H25 (upd H25 p3 (.tup [.int n, .int q1])) := Ext.upd1 np3
    refine ⟨_, _, dpT (ns := [n, q1]) (sqT_of (e26.tup _ _ hp)), dpT (ns := [n, q1]) (sqT_of upd_same), shT _, shT _, _, rfl, ?_⟩
    rw [eqvT2, decide_eq_true rfl]
    refine iteF ?_
    exact ⟨_, _, _, _, _, rfl, (e1319.trans e1922).trans ((e224.trans e25).trans e26)⟩
end
end Days
set_option Elab.async false
set_option linter.all false
set_option maxRecDepth 100000
set_option maxHeartbeats 4000000
namespace Days
open PySem PySem.Spec PyProof.Rows L2 Y3 Cl
/-! what stands behind the top: each def, each name -/
abbrev FnD (K : PySem.W.Frag) (x : Str) (st : Stmt) (f : Addr) (fd : FuncData) : Prop := FunD K x x (defArgs st) (defBody st) (defScope st) [] [] f fd
theorem fun_of {K : PySem.W.Frag} {x : Str} {st : Stmt} {f : Addr} {fd : FuncData} (F : FnD K x st f fd) : Fun K x x st f fd := by
  obtain ⟨⟨oc, od, dV, kV, doc, pm, an, cdv, ct, osl, rfl, lk, hcd, hD, _⟩, kp⟩ := F
  rcases hD with ⟨_, rfl⟩ | ⟨e, _⟩
  · exact ⟨⟨oc, od, kV, doc, pm, an, cdv, ct, osl, rfl, lk, hcd⟩, kp⟩
  · exact absurd rfl e
theorem func_of {K : PySem.W.Frag} {x : Str} {st : Stmt} {fd : FuncData} (F : FnD K x st (He.fAd K (x, none)) fd) : FunC K x x st (He.fAd K (x, none)) fd (He.codeOf K (x, none)) := by
  obtain ⟨⟨oc, od, dV, kV, doc, pm, an, cdv, ct, osl, rfl, lk, hcd, hD, _⟩, kp⟩ := F
  rcases hD with ⟨_, rfl⟩ | ⟨e, _⟩
  · obtain ⟨c, rfl⟩ := He.codeIn_ref hcd
    rw [He.codeOf_eq lk rfl]
    exact ⟨⟨oc, od, kV, doc, pm, an, ct, osl, rfl, lk, hcd⟩⟩
  · exact absurd rfl e
def dd (x : Str) (st : Stmt) : He.DefD := ⟨(x, none), x, x, defArgs st, defBody st, defScope st, [], []⟩

def fn : List He.DefD := [dd "_marks" sMarks, dd "_joined_marks" sJoined, dd "_leaf_marks" sLeaf, dd "_leaves_of" sLeaves, dd "_some_repeating" sRep0, dd "has_time" sHas, dd "times_in" sTimes, dd "repeats" sRepeats, dd "_least_period" sLeast, dd "plain_calendar" sPlain, dd "first_unlike" sUnlike, dd "is_endless" sEndless, dd "calendar_of" sCalOf, dd "_law_open_cells" sOpen, dd "_law_pick" sPick, dd "_law_draw_calendar" sDraw, dd "_law_has" sLHas, dd "_law_tail" sLTail, dd "_law_plain" sLPlain, dd "_law_otherwise" sOther, dd "law" sLaw]
def fa : List He.Fa := [.glo "_marks", .glo "_joined_marks", .glo "_leaf_marks", .glo "_leaves_of", .glo "_some_repeating", .glo "has_time", .glo "times_in", .glo "repeats", .glo "_least_period", .glo "plain_calendar", .glo "first_unlike", .glo "is_endless", .glo "calendar_of", .glo "_law_open_cells", .glo "_law_pick", .glo "_law_draw_calendar", .glo "_law_has", .glo "_law_tail", .glo "_law_plain", .glo "_law_otherwise", .glo "law", .free "range", .free "tuple", .free "len", .free "sorted", .free "zip", .free "list", .free "int", .free "repr", .free "max", .free "enumerate", .free "abs", .free "set", .free "all", .int "BEGIN" 0, .int "JOIN" 1, .glo "PAIRED"]
def tf : List He.Defn := [("times_in", none), ("plain_calendar", none)]
def ex (K : PySem.W.Frag) : Bool := He.eqO (PySem.W.nsIn K mainGlobals "lcm") (some (some (.builtin "math.lcm"))) && He.tupB K "PAIRED" [.str "both", .str "common", .str "without"]
theorem facts {l : PySem.W.OpenLaw} {w : World} {K : PySem.W.Frag} {h : Heap} {mg : Str → Option Value} {f : Addr} (X : K.In h) (G : h.Ns mainGlobals mg) (hfa : mg "law" = some (.ref f)) (c : He.SaysX fa fn [] tf ex w h K) :
    LamX.LawAtS l w K CX0 6 63 "_law_script" mg f h := by
  obtain ⟨d0, F0⟩ := c.t.d.def_ 0 (d := dd "_marks" sMarks) rfl
  obtain ⟨d1, F1⟩ := c.t.d.def_ 1 (d := dd "_joined_marks" sJoined) rfl
  obtain ⟨d2, F2⟩ := c.t.d.def_ 2 (d := dd "_leaf_marks" sLeaf) rfl
  obtain ⟨d3, F3⟩ := c.t.d.def_ 3 (d := dd "_leaves_of" sLeaves) rfl
  obtain ⟨d4, F4⟩ := c.t.d.def_ 4 (d := dd "_some_repeating" sRep0) rfl
  obtain ⟨d5, F5⟩ := c.t.d.def_ 5 (d := dd "has_time" sHas) rfl
  obtain ⟨d6, F6⟩ := c.t.d.def_ 6 (d := dd "times_in" sTimes) rfl
  obtain ⟨d7, F7⟩ := c.t.d.def_ 7 (d := dd "repeats" sRepeats) rfl
  obtain ⟨d8, F8⟩ := c.t.d.def_ 8 (d := dd "_least_period" sLeast) rfl
  obtain ⟨d9, F9⟩ := c.t.d.def_ 9 (d := dd "plain_calendar" sPlain) rfl
  obtain ⟨d10, F10⟩ := c.t.d.def_ 10 (d := dd "first_unlike" sUnlike) rfl
  obtain ⟨d11, F11⟩ := c.t.d.def_ 11 (d := dd "is_endless" sEndless) rfl
  obtain ⟨d12, F12⟩ := c.t.d.def_ 12 (d := dd "calendar_of" sCalOf) rfl
  obtain ⟨d13, F13⟩ := c.t.d.def_ 13 (d := dd "_law_open_cells" sOpen) rfl
  obtain ⟨d14, F14⟩ := c.t.d.def_ 14 (d := dd "_law_pick" sPick) rfl
  obtain ⟨d15, F15⟩ := c.t.d.def_ 15 (d := dd "_law_draw_calendar" sDraw) rfl
  obtain ⟨d16, F16⟩ := c.t.d.def_ 16 (d := dd "_law_has" sLHas) rfl
  obtain ⟨d17, F17⟩ := c.t.d.def_ 17 (d := dd "_law_tail" sLTail) rfl
  obtain ⟨d18, F18⟩ := c.t.d.def_ 18 (d := dd "_law_plain" sLPlain) rfl
  obtain ⟨d19, F19⟩ := c.t.d.def_ 19 (d := dd "_law_otherwise" sOther) rfl
  obtain ⟨d20, F20⟩ := c.t.d.def_ 20 (d := dd "law" sLaw) rfl
  have m0 := He.glo_ok X G (c.t.d.fact 0 (f := .glo "_marks") rfl)
  have m1 := He.glo_ok X G (c.t.d.fact 1 (f := .glo "_joined_marks") rfl)
  have m2 := He.glo_ok X G (c.t.d.fact 2 (f := .glo "_leaf_marks") rfl)
  have m3 := He.glo_ok X G (c.t.d.fact 3 (f := .glo "_leaves_of") rfl)
  have m4 := He.glo_ok X G (c.t.d.fact 4 (f := .glo "_some_repeating") rfl)
  have m5 := He.glo_ok X G (c.t.d.fact 5 (f := .glo "has_time") rfl)
  have m6 := He.glo_ok X G (c.t.d.fact 6 (f := .glo "times_in") rfl)
  have m7 := He.glo_ok X G (c.t.d.fact 7 (f := .glo "repeats") rfl)
  have m8 := He.glo_ok X G (c.t.d.fact 8 (f := .glo "_least_period") rfl)
  have m9 := He.glo_ok X G (c.t.d.fact 9 (f := .glo "plain_calendar") rfl)
  have m10 := He.glo_ok X G (c.t.d.fact 10 (f := .glo "first_unlike") rfl)
  have m11 := He.glo_ok X G (c.t.d.fact 11 (f := .glo "is_endless") rfl)
  have m12 := He.glo_ok X G (c.t.d.fact 12 (f := .glo "calendar_of") rfl)
  have m13 := He.glo_ok X G (c.t.d.fact 13 (f := .glo "_law_open_cells") rfl)
  have m14 := He.glo_ok X G (c.t.d.fact 14 (f := .glo "_law_pick") rfl)
  have m15 := He.glo_ok X G (c.t.d.fact 15 (f := .glo "_law_draw_calendar") rfl)
  have m16 := He.glo_ok X G (c.t.d.fact 16 (f := .glo "_law_has") rfl)
  have m17 := He.glo_ok X G (c.t.d.fact 17 (f := .glo "_law_tail") rfl)
  have m18 := He.glo_ok X G (c.t.d.fact 18 (f := .glo "_law_plain") rfl)
  have m19 := He.glo_ok X G (c.t.d.fact 19 (f := .glo "_law_otherwise") rfl)
  have m20 := He.glo_ok X G (c.t.d.fact 20 (f := .glo "law") rfl)
  have z_range := He.free_ok X G (c.t.d.fact 21 (f := .free "range") rfl)
  have z_tuple := He.free_ok X G (c.t.d.fact 22 (f := .free "tuple") rfl)
  have z_len := He.free_ok X G (c.t.d.fact 23 (f := .free "len") rfl)
  have z_sorted := He.free_ok X G (c.t.d.fact 24 (f := .free "sorted") rfl)
  have z_zip := He.free_ok X G (c.t.d.fact 25 (f := .free "zip") rfl)
  have z_list := He.free_ok X G (c.t.d.fact 26 (f := .free "list") rfl)
  have z_int := He.free_ok X G (c.t.d.fact 27 (f := .free "int") rfl)
  have z_repr := He.free_ok X G (c.t.d.fact 28 (f := .free "repr") rfl)
  have z_max := He.free_ok X G (c.t.d.fact 29 (f := .free "max") rfl)
  have z_enumerate := He.free_ok X G (c.t.d.fact 30 (f := .free "enumerate") rfl)
  have z_abs := He.free_ok X G (c.t.d.fact 31 (f := .free "abs") rfl)
  have z_set := He.free_ok X G (c.t.d.fact 32 (f := .free "set") rfl)
  have z_all := He.free_ok X G (c.t.d.fact 33 (f := .free "all") rfl)
  have ib := He.int_ok X G (c.t.d.fact 34 (f := .int "BEGIN" 0) rfl)
  have ij := He.int_ok X G (c.t.d.fact 35 (f := .int "JOIN" 1) rfl)
  have mp := He.glo_ok X G (c.t.d.fact 36 (f := .glo "PAIRED") rfl)
  obtain ⟨x1, x2⟩ := He.ba c.more
  have mlcm : mg "lcm" = some (.builtin "math.lcm") := PySem.W.mg_of X G (He.eqO_ok x1)
  have T : Names K mg := ⟨ib, ij, _, mp, fun H => He.tupB_ok x2 H⟩
  have e := hfa.symm.trans m20
  cases e
  have b0 : Binds K d0 ["c", "low", "high"] [] := F0.bindsN fun _ _ _ _ _ _ us hl => match us, hl with | [_, _, _], _ => rfl
  have b1 : Binds K d1 ["word", "first", "second"] [] := F1.bindsN fun _ _ _ _ _ _ us hl => match us, hl with | [_, _, _], _ => rfl
  have b2 : Binds K d2 ["part", "low", "high"] [] := F2.bindsN fun _ _ _ _ _ _ us hl => match us, hl with | [_, _, _], _ => rfl
  have b3 : Binds K d3 ["c"] [] := F3.bindsN fun _ _ _ _ _ _ us hl => match us, hl with | [_], _ => rfl
  have b4 : Binds K d4 ["c"] [] := F4.bindsN fun _ _ _ _ _ _ us hl => match us, hl with | [_], _ => rfl
  have b5 : Binds K d5 ["c", "t"] [] := F5.bindsN fun _ _ _ _ _ _ us hl => match us, hl with | [_, _], _ => rfl
  have b6 : Binds K d6 ["c", "low", "high"] [] := F6.bindsN fun _ _ _ _ _ _ us hl => match us, hl with | [_, _, _], _ => rfl
  have b7 : Binds K d7 ["c"] [] := F7.bindsN fun _ _ _ _ _ _ us hl => match us, hl with | [_], _ => rfl
  have b8 : Binds K d8 ["marks"] [] := F8.bindsN fun _ _ _ _ _ _ us hl => match us, hl with | [_], _ => rfl
  have b9 : Binds K d9 ["c"] [] := F9.bindsN fun _ _ _ _ _ _ us hl => match us, hl with | [_], _ => rfl
  have b10 : Binds K d10 ["c", "d"] [] := F10.bindsN fun _ _ _ _ _ _ us hl => match us, hl with | [_, _], _ => rfl
  have b11 : Binds K d11 ["c"] [] := F11.bindsN fun _ _ _ _ _ _ us hl => match us, hl with | [_], _ => rfl
  have b12 : Binds K d12 ["plain"] [] := F12.bindsN fun _ _ _ _ _ _ us hl => match us, hl with | [_], _ => rfl
  have b13 : Binds K d13 ["_law_script"] [] := F13.bindsN fun _ _ _ _ _ _ us hl => match us, hl with | [_], _ => rfl
  have b14 : Binds K d14 ["_law_source", "_law_most"] [] := F14.bindsN fun _ _ _ _ _ _ us hl => match us, hl with | [_, _], _ => rfl
  have b15 : Binds K d15 ["_law_source", "_law_depth"] [] := F15.bindsN fun _ _ _ _ _ _ us hl => match us, hl with | [_, _], _ => rfl
  have b16 : Binds K d16 ["_law_calendar", "_law_time"] [] := F16.bindsN fun _ _ _ _ _ _ us hl => match us, hl with | [_, _], _ => rfl
  have b17 : Binds K d17 ["_law_calendar"] [] := F17.bindsN fun _ _ _ _ _ _ us hl => match us, hl with | [_], _ => rfl
  have b18 : Binds K d18 ["_law_calendar"] [] := F18.bindsN fun _ _ _ _ _ _ us hl => match us, hl with | [_], _ => rfl
  have b19 : Binds K d19 ["_law_source", "_law_one", "_law_other", "_law_third"] [] := F19.bindsN fun _ _ _ _ _ _ us hl => match us, hl with | [_, _, _, _], _ => rfl
  have b20 := FunD.bindsA (ps := ["_law_script"]) F20 fun _ _ _ _ _ _ us hl => match us, hl with | [_], _ => rfl
  refine ⟨d20, [He.cT K ("times_in", none), He.cT K ("plain_calendar", none)], spLaw K (He.cT K ("times_in", none)).2 (He.cT K ("plain_calendar", none)).2, ?_, ?_, ?_, fun s u => b20 s [u] rfl, fun H a ns hl _ hT hS => ?_, fun base Xb Gb hTb => ?_⟩
  · intro p hp
    rcases List.mem_cons.mp hp with rfl | hp
    · exact c.empty ("times_in", none) (by simp [tf])
    · rw [List.mem_singleton.mp hp]
      exact c.empty ("plain_calendar", none) (by simp [tf])
  · intro p hp
    rcases List.mem_cons.mp hp with rfl | hp
    · exact c.out ("times_in", none) (by simp [tf])
    · rw [List.mem_singleton.mp hp]
      exact c.out ("plain_calendar", none) (by simp [tf])
  · intro p hp
    rcases List.mem_cons.mp hp with rfl | hp
    · exact PySem.W.codeHd_of_K X (c.hd ("times_in", none) (by simp [tf]))
    · rw [List.mem_singleton.mp hp]
      exact PySem.W.codeHd_of_K X (c.hd ("plain_calendar", none) (by simp [tf]))
  · exact ⟨a, ns, rfl, hS, hl, ⟨#[], hT _ (by simp), trivial⟩, ⟨#[], hT _ (by simp), trivial⟩, fun _ => rfl⟩
  · have t0 := hTb (He.cT K ("times_in", none)) (by simp)
    have t1 := hTb (He.cT K ("plain_calendar", none)) (by simp)
    have TB0 : GxR.TabB base mg (He.codeOf K ("times_in", none)) (He.cT K ("times_in", none)).2 := ⟨t0.code, t0.bm, t0.gP⟩
    have TB1 : GxR.TabB base mg (He.codeOf K ("plain_calendar", none)) (He.cT K ("plain_calendar", none)).2 := ⟨t1.code, t1.bm, t1.gP⟩
    have J : ∀ k, FnOk l.prog w K mg base CX0 (k + 1) _ d1 ["word", "first", "second"] spJoined := fun k => ok_joined (fun_of F1) z_list z_zip
    have Lf : ∀ k, FnOk l.prog w K mg base CX0 (k + 1) _ d2 ["part", "low", "high"] spLeaf := fun k => ok_leaf (fun_of F2) z_range
    have M : ∀ k, FnOk l.prog w K mg base CX0 (k + 2) _ d0 ["c", "low", "high"] spMarks := fun k => ok_marks (fun_of F0) T (J k) m1 F1.kp b1 (Lf k) m2 F2.kp b2
    have Lv : ∀ k, FnOk l.prog w K mg base CX0 (k + 1) _ d3 ["c"] spLeaves := fun k => ok_leaves (fun_of F3) T
    have R0 : ∀ k, FnOk l.prog w K mg base CX0 (k + 2) _ d4 ["c"] spRep0 := fun k => ok_rep0 (fun_of F4) z_max mlcm (Lv k) m3 F3.kp b3
    have Ti : ∀ k, FnOk l.prog w K mg base CX0 (k + 3) _ d6 ["c", "low", "high"] (spTimes (He.cT K ("times_in", none)).2) := fun k => ok_times (func_of F6) TB0 z_enumerate z_tuple (M k) m0 F0.kp b0
    have Ls : ∀ k, FnOk l.prog w K mg base CX0 (k + 1) _ d8 ["marks"] spLeast := fun k => ok_least (fun_of F8) z_range z_len
    have Re : ∀ k, FnOk l.prog w K mg base CX0 (k + 3) _ d7 ["c"] spRepeats := fun k => ok_repeats (fun_of F7) (R0 k) m4 F4.kp b4 (M k) m0 F0.kp b0 (Ls (k + 1)) m8 F8.kp b8
    have Pl : ∀ k, FnOk l.prog w K mg base CX0 (k + 4) _ d9 ["c"] (spPlain (He.cT K ("times_in", none)).2 (He.cT K ("plain_calendar", none)).2) := fun k => ok_plain (func_of F9) TB1 z_tuple (Re k) m7 F7.kp b7 (Ti k) m6 F6.kp b6
    have Ha : ∀ k, FnOk l.prog w K mg base CX0 (k + 3) _ d5 ["c", "t"] spHas := fun k => ok_has (fun_of F5) (M k) m0 F0.kp b0
    have Fu : ∀ k, FnOk l.prog w K mg base CX0 (k + 3) _ d10 ["c", "d"] spUnlike := fun k => ok_unlike (fun_of F10) z_max mlcm z_zip z_enumerate (R0 k) m4 F4.kp b4 (M k) m0 F0.kp b0
    have Ie : FnOk l.prog w K mg base CX0 5 _ d11 ["c"] (spEndless (He.cT K ("times_in", none)).2 (He.cT K ("plain_calendar", none)).2) := ok_endless (fun_of F11) (Pl 0) m9 F9.kp b9
    have Co : FnOk l.prog w K mg base CX0 5 _ d12 ["plain"] spCalOf := ok_calOf (fun_of F12)
    have Op : FnOk l.prog w K mg base CX0 5 _ d13 ["_law_script"] (spOpen K) := ok_open (fun_of F13) z_int z_abs
    have Pk : ∀ k, FnOk l.prog w K mg base CX0 (k + 1) _ d14 ["_law_source", "_law_most"] spPick := fun k => ok_pick (fun_of F14) z_int z_len
    have D1 : FnOk l.prog w K mg base CX0 4 _ d15 ["_law_source", "_law_depth"] (spDraw 1) := ok_draw (fun_of F15) z_tuple z_sorted z_set z_range (Pk 2) m14 F14.kp b14 draw_none m15 b15
    have D2 : FnOk l.prog w K mg base CX0 5 _ d15 ["_law_source", "_law_depth"] (spDraw 2) := ok_draw (fun_of F15) z_tuple z_sorted z_set z_range (Pk 3) m14 F14.kp b14 D1 m15 b15
    have H4 : ∀ k, FnOk l.prog w K mg base CX0 (k + 4) _ d16 ["_law_calendar", "_law_time"] (spLHas 4) := fun k => (ok_lhas (fun_of F16) z_int (ok_lhas (fun_of F16) z_int (ok_lhas (fun_of F16) z_int (ok_lhas (k := k) (fun_of F16) z_int has_none m16 b16) m16 b16) m16 b16) m16 b16)
    have T4 : ∀ k, FnOk l.prog w K mg base CX0 (k + 4) _ d17 ["_law_calendar"] (spLTail 4) := fun k => (ok_ltail (fun_of F17) z_max (ok_ltail (fun_of F17) z_max (ok_ltail (fun_of F17) z_max (ok_ltail (k := k) (fun_of F17) z_max tail_none m17 b17) m17 b17) m17 b17) m17 b17)
    have LPl : FnOk l.prog w K mg base CX0 5 _ d18 ["_law_calendar"] (spLPlain 3) := ok_lplain (by decide) (fun_of F18) z_range z_tuple z_all (H4 0) m16 F16.kp b16 (T4 0) m17 F17.kp b17
    have Ot : FnOk l.prog w K mg base CX0 5 _ d19 ["_law_source", "_law_one", "_law_other", "_law_third"] spOther := ok_other (fun_of F19) (Pk 3) m14 F14.kp b14
    exact ok_law52 (fun_of F20) ⟨Op, m13, F13.kp, b13⟩ ⟨D2, m15, F15.kp, b15⟩ ⟨Ot, m19, F19.kp, b19⟩ ⟨LPl, m18, F18.kp, b18⟩ ⟨Pl 1, m9, F9.kp, b9⟩ ⟨Fu 2, m10, F10.kp, b10⟩ ⟨Co, m12, F12.kp, b12⟩ ⟨Ha 2, m5, F5.kp, b5⟩ ⟨H4 1, m16, F16.kp, b16⟩ ⟨Ti 2, m6, F6.kp, b6⟩ ⟨Ie, m11, F11.kp, b11⟩ ⟨Re 2, m7, F7.kp, b7⟩ z_range
end Days
set_option Elab.async false
set_option linter.all false
set_option maxRecDepth 100000
set_option maxHeartbeats 0
namespace Days
open PySem PySem.Spec PyProof.Rows L2
abbrev R : PySem.W.OpenRow := PySem.W.OpenLaw.row PySem.Challenge.rw_effectonce_k52_whole_calendars_alike
abbrev qv : Program := PySem.W.view R.prog [0, 26]
abbrev hk : PySem.W.Hook := He.hookX 4 fa fn [] tf ex
def loose : List Str := ["PAIRED", "BEGIN", "JOIN", "_marks", "_joined_marks", "_leaf_marks", "_leaves_of", "_some_repeating", "has_time", "times_in", "repeats", "_least_period", "plain_calendar", "first_unlike", "is_endless", "calendar_of", "_law_open_cells", "_law_pick", "_law_draw_calendar", "_law_has", "_law_tail", "_law_plain", "_law_otherwise", "law"]
def ob (s : PySem.W.SharedT) : He.AlX := He.obsX 4 fa fn [] tf ex (HandSHeadRun.getT s)
theorem ob_eq (s : PySem.W.SharedT) : ob s = hk.obs s.abs := He.obsX_eq (HandSHeadRun.getT_eq s)
theorem run (w : World) : HandSHeadRun.RunEqI R qv hk ob 4000 loose w := by
  unfold HandSHeadRun.RunEqI
  kernel_rfl
end Days
set_option Elab.async false
set_option linter.all false
open PySem PySem.W PySem.Calls PyProof.Rows
set_option maxRecDepth 100000 in
set_option maxHeartbeats 0 in
theorem PySem.Challenge.cw_effectonce_k52_whole_calendars_alike_holds : PySem.Challenge.rw_effectonce_k52_whole_calendars_alike.Holds := by
  w_on; o_law
  refine HandSHeadRun.head_imp (r := Days.R) (q := Days.qv) (H := Days.hk) (ob := Days.ob) (M := 4000) (loose := Days.loose) (d := HandSHeadRun.topDef Days.R.prog 26) (kwd := []) Days.ob_eq Days.run (by kernel_rfl) (by kernel_rfl) (by kernel_rfl) (by rfl) (by first | assumption | decide +kernel) (by decide +kernel) ⟨rfl, rfl, rfl, rfl, rfl, by decide +kernel⟩ ?hw ?hc
  case hw => w_witness2
  case hc =>
    refine LamX.walk_ofTsE (l := PySem.Challenge.rw_effectonce_k52_whole_calendars_alike) (n := 63) (k := 6) (x := "_law_script") (CX := fun _ => L2.CX0) rfl (by decide) (by kernel_rfl) ⟨rfl, by decide, by decide⟩ ?F (fun _ _ _ _ _ z => z)
    intro w mg fa h Y G hmg0
    obtain ⟨K, KX, c⟩ := Y
    have hmg : mg ("law" : PySem.Str) = some (.ref fa) := by
      have e : (HandSHeadRun.topDef Days.R.prog 26).name = ("law" : PySem.Str) := by kernel_rfl
      rw [← e]
      exact hmg0
    exact ⟨K, KX, Days.facts KX G hmg c⟩
