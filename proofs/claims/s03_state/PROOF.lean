import PyProof.Rows.All
import PyProof.ZipIter
import PyProof.Draws
import Wide.All
import OpenK.AllK
import Wide.FinOn
import PyProof.EqAt
import PyProof.EqKinds
import PyProof.TupleCall
import KE.BitLaws
import Open.SpecLaws
import KE.OsHead
import KE.OsGo
import KE.KLam
import KE.KMinKey
import KE.KNestM
import PySem.Builtin.Tuple.Common
import KE.KDictSum
import PyProof.Rows.SortShellAny
import PyProof.DictUpdate
import PySem.Challenge.RW_hubpanels_s03_state
section
set_option Elab.async false
set_option maxRecDepth 100000
namespace Jm
open Pu
/-! ### Numbers -/
def isDig (c : UInt8) : Bool := decide (48 ≤ c.toNat) && decide (c.toNat ≤ 57)
def dig (c : UInt8) : Nat := c.toNat - 48
/-- the number and how many more bytes -/
def numGo (g : Nat) : Nat → Bytes → Nat × Nat
  | n, [] => (n, 0)
  | n, b :: r => if 0 < n ∧ isDig b = true ∧ n * 10 + dig b ≤ g then ((numGo g (n * 10 + dig b) r).1, (numGo g (n * 10 + dig b) r).2 + 1) else (n, 0)
def readNum (g : Nat) : Bytes → Option (Nat × Nat)
  | [] => none
  | b :: r => if isDig b = true then some ((numGo g (dig b) r).1, (numGo g (dig b) r).2 + 1) else none
theorem readNum_cons (g : Nat) (b : UInt8) (r : Bytes) : readNum g (b :: r) = if isDig b = true then some ((numGo g (dig b) r).1, (numGo g (dig b) r).2 + 1) else none := rfl
def NumOk (g : Nat) (d : Bytes) : Prop := ∃ n, n ≤ g ∧ dec n = d
theorem dec_val : ∀ n, n < 256 → valueOf (dec n) = n := by decide +kernel
theorem dec_dig : ∀ n, n < 256 → (dec n).all isDig = true := by decide +kernel
theorem dec_len : ∀ n, n < 256 → 1 ≤ (dec n).length ∧ (dec n).length ≤ 3 := by decide +kernel
theorem dec_one : ∀ n, n < 10 → dec n = [UInt8.ofNat (48 + n)] := by decide +kernel
theorem dec_step : ∀ m, m < 26 → ∀ r, r < 10 → 0 < m → dec (m * 10 + r) = dec m ++ [UInt8.ofNat (48 + r)] := by decide +kernel
theorem ofNat_dig {c : UInt8} (h : isDig c = true) : UInt8.ofNat (48 + dig c) = c := by
  unfold isDig at h
  simp at h
  unfold dig
  have : 48 + (c.toNat - 48) = c.toNat := by omega
  rw [this, UInt8.ofNat_toNat]
theorem dig_lt {c : UInt8} (h : isDig c = true) : dig c < 10 := by
  unfold isDig at h
  simp at h
  unfold dig; omega
theorem dec_inj {a b : Nat} (ha : a < 256) (hb : b < 256) (h : dec a = dec b) : a = b := by
  have := congrArg valueOf h
  rwa [dec_val a ha, dec_val b hb] at this
/-- a beginning of a number is one -/
theorem NumOk.init {g : Nat} (hg : g < 256) {d : Bytes} {x : UInt8} (h : NumOk g (d ++ [x])) (hd : d ≠ []) : ∃ m, 0 < m ∧ dec m = d ∧ m < 26 ∧ isDig x = true ∧ m * 10 + dig x ≤ g := by
  obtain ⟨n, hn, e⟩ := h
  by_cases h10 : n < 10
  · rw [dec_one n h10] at e
    cases d with
    | nil => exact absurd rfl hd
    | cons a l => cases l <;> cases e
  · have hs := dec_step (n / 10) (by omega) (n % 10) (by omega) (by omega)
    have e1 : n / 10 * 10 + n % 10 = n := by omega
    rw [e1, e] at hs
    have h1 := List.append_inj' hs rfl
    have hx : x = UInt8.ofNat (48 + n % 10) := by simpa using h1.2
    have hxn : x.toNat = 48 + n % 10 := by
      rw [hx, UInt8.toNat_ofNat']
      omega
    refine ⟨n / 10, by omega, h1.1.symm, by omega, ?_, ?_⟩
    · unfold isDig; rw [hxn]; simp; omega
    · unfold dig; rw [hxn]; omega
theorem NumOk.step {g m : Nat} (hg : g < 256) {x : UInt8} (hm : 0 < m) (hx : isDig x = true) (h : m * 10 + dig x ≤ g) : dec (m * 10 + dig x) = dec m ++ [x] := by
  rw [dec_step m (by omega) (dig x) (dig_lt hx) hm, ofNat_dig hx]
theorem numGo_spec {g : Nat} (hg : g < 256) : ∀ (r : Bytes) (n : Nat), n ≤ g → dec (numGo g n r).1 = dec n ++ r.take (numGo g n r).2 ∧ (numGo g n r).1 ≤ g ∧ (numGo g n r).2 ≤ r.length ∧
    ((numGo g n r).2 < r.length → ¬ NumOk g (dec n ++ r.take ((numGo g n r).2 + 1)))
  | [], n, hn => by simp [numGo, hn]
  | b :: r, n, hn => by
    unfold numGo
    by_cases h : 0 < n ∧ isDig b = true ∧ n * 10 + dig b ≤ g
    · rw [if_pos h]
      obtain ⟨h1, h2, h3⟩ := h
      have ih := numGo_spec hg r (n * 10 + dig b) h3
      have es : dec (n * 10 + dig b) = dec n ++ [b] := NumOk.step hg h1 h2 h3
      rw [es] at ih
      refine ⟨?_, ih.2.1, ?_, ?_⟩
      · rw [ih.1]; simp
      · have := ih.2.2.1; simp; omega
      · intro hl
        have := ih.2.2.2 (by simp at hl; omega)
        simpa using this
    · rw [if_neg h]
      refine ⟨by simp, hn, by simp, fun _ hk => ?_⟩
      have hk' : NumOk g (dec n ++ [b]) := by simpa using hk
      have hne : dec n ≠ [] := fun e => by have := (dec_len n (by omega)).1; rw [e] at this; simp at this
      obtain ⟨m, hm, em, hm26, hd, hle⟩ := hk'.init hg hne
      have : m = n := dec_inj (by omega) (by omega) em
      subst this
      exact h ⟨hm, hd, hle⟩
theorem readNum_some {g : Nat} (hg : g < 256) (h9 : 9 ≤ g) {b : Bytes} {n c : Nat} (h : readNum g b = some (n, c)) :
    dec n = b.take c ∧ n ≤ g ∧ 1 ≤ c ∧ c ≤ b.length ∧ (c < b.length → ¬ NumOk g (b.take (c + 1))) := by
  cases b with
  | nil => cases h
  | cons x r =>
    rw [readNum_cons] at h
    by_cases hx : isDig x = true
    · rw [if_pos hx] at h
      have h' := Option.some.inj h
      have h1 : (numGo g (dig x) r).1 = n := congrArg Prod.fst h'
      have h2 : (numGo g (dig x) r).2 + 1 = c := congrArg Prod.snd h'
      have hd := dig_lt hx
      have e1 : dec (dig x) = [x] := by rw [dec_one _ hd, ofNat_dig hx]
      obtain ⟨s1, s2, s3, s4⟩ := numGo_spec hg r (dig x) (by omega)
      rw [e1] at s1 s4
      subst h1 h2
      refine ⟨by rw [s1]; simp, s2, by omega, by simp; omega, fun hl => ?_⟩
      have := s4 (by simp at hl; omega)
      simpa using this
    · rw [if_neg hx] at h; cases h
theorem NumOk.head {g : Nat} (hg : g < 256) {d : Bytes} (h : NumOk g d) : ∃ x r, d = x :: r ∧ isDig x = true := by
  obtain ⟨n, hn, rfl⟩ := h
  have h1 := (dec_len n (by omega)).1
  have h2 := dec_dig n (by omega)
  cases e : dec n with
  | nil => rw [e] at h1; simp at h1
  | cons x r => rw [e] at h2; simp at h2; exact ⟨x, r, rfl, h2.1⟩
theorem readNum_none {g : Nat} (hg : g < 256) {b : Bytes} (h : readNum g b = none) (i : Nat) : ¬ NumOk g (b.take i) := by
  intro hk
  obtain ⟨x, r, e, hx⟩ := hk.head hg
  cases b with
  | nil => simp at e
  | cons y s =>
    cases i with
    | zero => simp at e
    | succ i =>
      simp at e
      obtain ⟨rfl, _⟩ := e
      rw [readNum_cons] at h
      rw [if_pos hx] at h
      cases h
theorem take_succ_get {α : Type} {l : List α} {i : Nat} (h : i < l.length) : l.take (i + 1) = l.take i ++ [l[i]] := by
  simp
/-- a beginning of a number, one byte or more, is a number -/
theorem NumOk.take {g : Nat} (hg : g < 256) : ∀ (j i : Nat) {b : Bytes}, NumOk g (b.take (i + j)) → 1 ≤ i → i + j ≤ b.length → NumOk g (b.take i)
  | 0, _, _, h, _, _ => h
  | j + 1, i, b, h, h1, h2 => by
    have e : b.take (i + (j + 1)) = b.take (i + j) ++ [b[i + j]'(by omega)] := take_succ_get (l := b) (i := i + j) (by omega)
    rw [e] at h
    obtain ⟨m, hm, em, _, hd, hle⟩ := h.init hg (by
      intro z
      have z2 : (b.take (i + j)).length = 0 := by rw [z]; rfl
      rw [List.length_take] at z2
      omega)
    exact NumOk.take hg j i ⟨m, by omega, em⟩ h1 (by omega)
theorem NumOk.le {g i j : Nat} (hg : g < 256) {b : Bytes} (h : NumOk g (b.take j)) (h1 : 1 ≤ i) (hij : i ≤ j) (hj : j ≤ b.length) : NumOk g (b.take i) := by
  have e : j = i + (j - i) := by omega
  rw [e] at h
  exact NumOk.take hg (j - i) i h h1 (by omega)
theorem numOk_iff {g : Nat} (hg : g < 256) (h9 : 9 ≤ g) {b : Bytes} {n c i : Nat} (h : readNum g b = some (n, c)) (h1 : 1 ≤ i) (hi : i ≤ b.length) : NumOk g (b.take i) ↔ i ≤ c := by
  obtain ⟨s1, s2, s3, s4, s5⟩ := readNum_some hg h9 h
  constructor
  · intro hk
    by_cases hc : i ≤ c
    · exact hc
    · exact absurd (hk.le hg (i := c + 1) (by omega) (by omega) hi) (s5 (by omega))
  · intro hc
    exact NumOk.le hg ⟨n, s2, s1⟩ h1 hc s4
theorem dig_at {g : Nat} (hg : g < 256) {d : Bytes} (h : NumOk g d) {i : Nat} (hi : i < d.length) : isDig (d[i]) = true := by
  obtain ⟨n, hn, rfl⟩ := h
  have := dec_dig n (by omega)
  rw [List.all_eq_true] at this
  exact this _ (List.getElem_mem hi)
/-- the specification's numbers -/
theorem cond_iff {g : Nat} (hg : g < 256) (d : Bytes) : ((d.all fun (c : UInt8) => decide (48 ≤ c.toNat) && decide (c.toNat ≤ 57)) = true ∧ dec (d.foldl (fun (a : Nat) (c : UInt8) => 10 * a + (c.toNat - 48)) 0) = d ∧ 0 ≤ (d.foldl (fun (a : Nat) (c : UInt8) => 10 * a + (c.toNat - 48)) 0) ∧ (d.foldl (fun (a : Nat) (c : UInt8) => 10 * a + (c.toNat - 48)) 0) ≤ g) ↔ NumOk g d := by
  constructor
  · rintro ⟨_, h2, _, h4⟩
    exact ⟨_, h4, h2⟩
  · rintro ⟨n, hn, rfl⟩
    have e : (dec n).foldl (fun (a : Nat) (c : UInt8) => 10 * a + (c.toNat - 48)) 0 = n := dec_val n (by omega)
    rw [e]
    exact ⟨dec_dig n (by omega), rfl, Nat.zero_le _, hn⟩
theorem NumOk.len {g : Nat} (hg : g < 256) {d : Bytes} (h : NumOk g d) : 1 ≤ d.length ∧ d.length ≤ 3 := by
  obtain ⟨n, hn, rfl⟩ := h
  exact dec_len n (by omega)
theorem mem_numbersIn {g : Nat} (hg : g < 256) {b r : Bytes} : r ∈ numbersIn 0 g b ↔ ∃ i, 1 ≤ i ∧ i ≤ b.length ∧ NumOk g (b.take i) ∧ r = b.drop i := by
  unfold numbersIn
  rw [List.mem_filterMap]
  constructor
  · rintro ⟨i, hi, e⟩
    rw [List.mem_range] at hi
    simp only [] at e
    split at e
    · rename_i hc
      exact ⟨i + 1, by omega, by omega, (cond_iff hg _).mp hc, (Option.some.inj e).symm⟩
    · cases e
  · rintro ⟨i, h1, h2, h3, rfl⟩
    have hl := (h3.len hg).2
    rw [List.length_take] at hl
    refine ⟨i - 1, ?_, ?_⟩
    · rw [List.mem_range]; omega
    · have e : i - 1 + 1 = i := by omega
      simp only [e]
      rw [if_pos ((cond_iff hg _).mpr h3)]
theorem numberBegins_iff {g : Nat} (hg : g < 256) {b : Bytes} : numberBegins 0 g b = true ↔ b = [] ∨ NumOk g b := by
  unfold numberBegins
  rw [Bool.or_eq_true, Bool.and_eq_true, List.any_eq_true]
  constructor
  · rintro (h | ⟨_, n, hn, h⟩)
    · exact .inl (by simpa using h)
    · rw [List.mem_range] at hn
      rw [Bool.and_eq_true, List.isPrefixOf_iff_prefix] at h
      obtain ⟨t, ht⟩ := h.2
      by_cases hb : b = []
      · exact .inl hb
      · right
        have hb1 : 1 ≤ b.length := by cases b with | nil => exact absurd rfl hb | cons x l => simp
        have hk : NumOk g ((b ++ t).take (b ++ t).length) := ⟨n, by omega, by rw [List.take_length, ht]⟩
        have := hk.le hg (i := b.length) hb1 (by simp) (Nat.le_refl _)
        simpa using this
  · rintro (rfl | h)
    · left; rfl
    · right
      have hl := (h.len hg).2
      obtain ⟨n, hn, rfl⟩ := h
      refine ⟨by simp; omega, n, by rw [List.mem_range]; omega, ?_⟩
      simp
end Jm
end

section
set_option Elab.async false
set_option maxRecDepth 100000
namespace Jm
open Pu
/-! ### Parts, read greedily -/
def shared : Bytes → Bytes → Nat
  | b :: r, c :: w => if b = c then shared r w + 1 else 0
  | _, _ => 0
theorem shared_le_w : ∀ (b w : Bytes), shared b w ≤ w.length
  | [], w => by simp [shared]
  | _ :: _, [] => by simp [shared]
  | b :: r, c :: w => by
    unfold shared
    split
    · have := shared_le_w r w; simp; omega
    · simp
theorem shared_le_b : ∀ (b w : Bytes), shared b w ≤ b.length
  | [], w => by simp [shared]
  | _ :: _, [] => by simp [shared]
  | b :: r, c :: w => by
    unfold shared
    split
    · have := shared_le_b r w; simp; omega
    · simp
/-- a beginning of b is a beginning of w: just as far as they are alike -/
theorem take_pre_iff : ∀ (b w : Bytes) (k : Nat), k ≤ b.length → (b.take k <+: w ↔ k ≤ shared b w)
  | b, w, 0, _ => by simp
  | [], w, k + 1, h => by simp at h
  | x :: b, [], k + 1, h => by simp [shared]
  | x :: b, y :: w, k + 1, h => by
    unfold shared
    rw [List.take_succ_cons, List.cons_prefix_cons]
    have ih := take_pre_iff b w k (by simpa using h)
    by_cases e : x = y
    · rw [if_pos e, ih]; simp [e]
    · rw [if_neg e]; simp [e]
theorem pre_iff : ∀ (b w : Bytes), w <+: b ↔ shared b w = w.length
  | b, [] => by cases b <;> simp [shared]
  | [], c :: w => by simp [shared]
  | x :: b, y :: w => by
    unfold shared
    rw [List.cons_prefix_cons, pre_iff b w]
    by_cases e : x = y
    · rw [if_pos e]; simp [e]
    · rw [if_neg e]
      constructor
      · rintro ⟨h, _⟩; exact absurd h.symm e
      · intro h; simp at h
/-- how many bytes, the numbers read, whether all parts were there -/
def go : List Part → Bytes → Nat × List Nat × Bool
  | [], _ => (0, [], true)
  | .word w :: l, b => if shared b w = w.length then (w.length + (go l (b.drop w.length)).1, (go l (b.drop w.length)).2) else (shared b w, [], false)
  | .num _ g :: l, b => match readNum g b with
    | none => (0, [], false)
    | some (n, c) => (c + (go l (b.drop c)).1, n :: (go l (b.drop c)).2.1, (go l (b.drop c)).2.2)
  | .tray :: _, _ => (0, [], false)
/-- a number is followed by a word that begins with no figure -/
def Fit : List Part → Prop
  | [] => True
  | .word _ :: l => Fit l
  | .num lo g :: l => lo = 0 ∧ 9 ≤ g ∧ g < 256 ∧ (∃ x w l', l = .word (x :: w) :: l' ∧ isDig x = false) ∧ Fit l
  | .tray :: _ => False
theorem go_le : ∀ (f : List Part) (b : Bytes), (go f b).1 ≤ b.length
  | [], b => by simp [go]
  | .word w :: l, b => by
    unfold go
    split
    · rename_i h
      have h1 := shared_le_b b w
      have h2 := go_le l (b.drop w.length)
      rw [List.length_drop] at h2
      simp only []
      omega
    · exact shared_le_b b w
  | .num lo g :: l, b => by
    unfold go
    cases e : readNum g b with
    | none => simp
    | some p =>
      obtain ⟨n, c⟩ := p
      have h2 := go_le l (b.drop c)
      rw [List.length_drop] at h2
      have : c ≤ b.length := by
        cases b with
        | nil => cases e
        | cons x r =>
          rw [readNum_cons] at e
          split at e
          · have e' := congrArg Prod.snd (Option.some.inj e)
            simp only [] at e'
            have : ∀ (r : Bytes) (n : Nat), (numGo g n r).2 ≤ r.length := by
              intro r
              induction r with
              | nil => intro n; simp [numGo]
              | cons y r ih =>
                intro n
                unfold numGo
                split
                · have := ih (n * 10 + dig y); simp; omega
                · simp
            have := this r (dig x)
            simp; omega
          · cases e
      simp only []
      omega
  | .tray :: _, b => by simp [go]
theorem isBy_word (w : Bytes) (l : List Part) (b : Bytes) : isBy (.word w :: l) b = (decide (shared b w = w.length) && isBy l (b.drop w.length)) := by
  show ((if w.isPrefixOf b = true then [b.drop w.length] else []).any fun r => isBy l r) = _
  by_cases h : w.isPrefixOf b = true
  · rw [if_pos h]
    have := (pre_iff b w).mp (List.isPrefixOf_iff_prefix.mp h)
    simp [this]
  · rw [if_neg h]
    have : ¬ shared b w = w.length := fun e => h (List.isPrefixOf_iff_prefix.mpr ((pre_iff b w).mpr e))
    simp [this]
theorem isBy_go : ∀ (f : List Part), Fit f → ∀ b, isBy f b = true ↔ (go f b).2.2 = true ∧ (go f b).1 = b.length
  | [], _, b => by
    unfold isBy go
    cases b <;> simp
  | .word w :: l, hf, b => by
    rw [isBy_word]
    have ih := isBy_go l hf (b.drop w.length)
    unfold go
    by_cases h : shared b w = w.length
    · rw [if_pos h]
      simp only [h, decide_true, Bool.true_and]
      rw [ih, List.length_drop]
      have := shared_le_b b w
      have h3 := go_le l (b.drop w.length)
      rw [List.length_drop] at h3
      constructor
      · rintro ⟨a, c⟩; exact ⟨a, by omega⟩
      · rintro ⟨a, c⟩; exact ⟨a, by omega⟩
    · rw [if_neg h]
      simp [h]
  | .num lo g :: l, hf, b => by
    obtain ⟨rfl, h9, hg, ⟨x, w, l', rfl, hx⟩, hl⟩ := hf
    show ((numbersIn 0 g b).any fun r => isBy (.word (x :: w) :: l') r) = true ↔ _
    rw [List.any_eq_true]
    unfold go
    cases e : readNum g b with
    | none =>
      simp only []
      constructor
      · rintro ⟨r, hr, _⟩
        obtain ⟨i, _, _, hk, _⟩ := (mem_numbersIn hg).mp hr
        exact absurd hk (readNum_none hg e i)
      · rintro ⟨h, _⟩; cases h
    | some p =>
      obtain ⟨n, c⟩ := p
      obtain ⟨s1, s2, s3, s4, s5⟩ := readNum_some hg h9 e
      have ih := isBy_go (.word (x :: w) :: l') hl (b.drop c)
      simp only []
      have h3 := go_le (.word (x :: w) :: l') (b.drop c)
      rw [List.length_drop] at h3
      constructor
      · rintro ⟨r, hr, hb⟩
        obtain ⟨i, h1, h2, hk, rfl⟩ := (mem_numbersIn hg).mp hr
        have hic := (numOk_iff hg h9 e h1 h2).mp hk
        by_cases hi : i = c
        · subst hi
          obtain ⟨a, q⟩ := ih.mp hb
          rw [List.length_drop] at q
          exact ⟨a, by omega⟩
        · exfalso
          rw [isBy_word, Bool.and_eq_true] at hb
          have hs := (pre_iff _ _).mpr (of_decide_eq_true hb.1)
          obtain ⟨t, ht⟩ := hs
          have hlt : i < b.length := by omega
          have hk1 : NumOk g (b.take (i + 1)) := (numOk_iff hg h9 e (by omega) (by omega)).mpr (by omega)
          have hd := dig_at hg hk1 (i := i) (by rw [List.length_take]; omega)
          have hd' : isDig (b[i]) = true := by simpa using hd
          have : b.drop i = b[i] :: b.drop (i + 1) := List.drop_eq_getElem_cons hlt
          rw [this] at ht
          have hxe : x = b[i] := (List.cons.inj (show x :: (w ++ t) = _ from ht)).1
          rw [← hxe, hx] at hd'
          cases hd'
      · rintro ⟨a, q⟩
        refine ⟨b.drop c, (mem_numbersIn hg).mpr ⟨c, s3, s4, ⟨n, s2, s1⟩, rfl⟩, ih.mpr ⟨a, ?_⟩⟩
        rw [List.length_drop]; omega
  | .tray :: _, hf, b => hf.elim
theorem isPrefixOf_take {b w : Bytes} {k : Nat} (h : k ≤ b.length) : (b.take k).isPrefixOf w = decide (k ≤ shared b w) := by
  rw [Bool.eq_iff_iff, List.isPrefixOf_iff_prefix, take_pre_iff b w k h, decide_eq_true_iff]
theorem shared_take : ∀ (b w : Bytes) (k : Nat), shared (b.take k) w = min k (shared b w)
  | b, w, 0 => by cases b <;> simp [shared]
  | [], w, k + 1 => by simp [shared]
  | x :: b, [], k + 1 => by simp [shared]
  | x :: b, y :: w, k + 1 => by
    rw [List.take_succ_cons]
    unfold shared
    by_cases e : x = y
    · rw [if_pos e, if_pos e, shared_take b w k]; omega
    · rw [if_neg e, if_neg e]; simp
theorem begins_word (w : Bytes) (l : List Part) (b : Bytes) (k : Nat) (hk : k ≤ b.length) : beginsBy (.word w :: l) (b.take k) = true ↔ k ≤ shared b w ∨ (shared b w = w.length ∧ w.length ≤ k ∧ beginsBy l ((b.drop w.length).take (k - w.length)) = true) := by
  show ((b.take k).isPrefixOf w || ((if w.isPrefixOf (b.take k) = true then [(b.take k).drop w.length] else []).any fun r => beginsBy l r)) = true ↔ _
  rw [isPrefixOf_take hk, Bool.or_eq_true, decide_eq_true_iff]
  have e1 : w.isPrefixOf (b.take k) = true ↔ (shared b w = w.length ∧ w.length ≤ k) := by
    rw [List.isPrefixOf_iff_prefix, pre_iff, shared_take]
    have := shared_le_w b w
    omega
  by_cases h : w.isPrefixOf (b.take k) = true
  · rw [if_pos h]
    have := e1.mp h
    rw [List.drop_take]
    simp [this]
  · rw [if_neg h]
    have := fun z => h (e1.mpr z)
    constructor
    · rintro (q | q)
      · exact .inl q
      · cases q
    · rintro (q | ⟨q1, q2, _⟩)
      · exact .inl q
      · exact absurd ⟨q1, q2⟩ this
theorem begins_go : ∀ (f : List Part), Fit f → ∀ (b : Bytes) (k : Nat), k ≤ b.length → (beginsBy f (b.take k) = true ↔ k ≤ (go f b).1)
  | [], _, b, k, hk => by
    unfold beginsBy go
    cases b with
    | nil => simp at hk; subst hk; simp
    | cons x r => cases k <;> simp
  | .word w :: l, hf, b, k, hk => by
    rw [begins_word w l b k hk]
    have ih := begins_go l hf (b.drop w.length) (k - w.length)
    have hs := shared_le_b b w
    have hw := shared_le_w b w
    unfold go
    by_cases h : shared b w = w.length
    · rw [if_pos h]
      simp only [h, true_and]
      constructor
      · rintro (q | ⟨q1, q2⟩)
        · omega
        · have := (ih (by rw [List.length_drop]; omega)).mp q2
          omega
      · intro q
        by_cases hkw : k ≤ w.length
        · exact .inl hkw
        · exact .inr ⟨by omega, (ih (by rw [List.length_drop]; omega)).mpr (by omega)⟩
    · rw [if_neg h]
      simp only []
      constructor
      · rintro (q | ⟨q, _⟩)
        · exact q
        · exact absurd q h
      · exact .inl
  | .num lo g :: l, hf, b, k, hk => by
    obtain ⟨rfl, h9, hg, ⟨x, w, l', rfl, hx⟩, hl⟩ := hf
    show (numberBegins 0 g (b.take k) || ((numbersIn 0 g (b.take k)).any fun r => beginsBy (.word (x :: w) :: l') r)) = true ↔ _
    rw [Bool.or_eq_true, List.any_eq_true, numberBegins_iff hg]
    unfold go
    have hlk : (b.take k).length = k := by rw [List.length_take]; omega
    cases e : readNum g b with
    | none =>
      simp only []
      constructor
      · rintro ((q | q) | ⟨r, hr, _⟩)
        · have := congrArg List.length q; rw [hlk] at this; simp at this; omega
        · exact absurd q (readNum_none hg e k)
        · obtain ⟨i, _, h2, hk', _⟩ := (mem_numbersIn hg).mp hr
          rw [List.take_take] at hk'
          exact absurd hk' (readNum_none hg e _)
      · intro q
        left; left
        have : k = 0 := by omega
        subst this; simp
    | some p =>
      obtain ⟨n, c⟩ := p
      obtain ⟨s1, s2, s3, s4, s5⟩ := readNum_some hg h9 e
      have ih := begins_go (.word (x :: w) :: l') hl (b.drop c) (k - c)
      simp only []
      constructor
      · rintro ((q | q) | ⟨r, hr, hb⟩)
        · have := congrArg List.length q; rw [hlk] at this; simp at this; omega
        · by_cases h0 : k = 0
          · omega
          · have := (numOk_iff hg h9 e (by omega) hk).mp q
            omega
        · obtain ⟨i, h1, h2, hk', rfl⟩ := (mem_numbersIn hg).mp hr
          rw [hlk] at h2
          rw [List.take_take, Nat.min_eq_left h2] at hk'
          have hic := (numOk_iff hg h9 e h1 (by omega)).mp hk'
          rw [List.drop_take] at hb
          by_cases hi : i = c
          · subst hi
            have := (ih (by rw [List.length_drop]; omega)).mp hb
            omega
          · by_cases hki : k = i
            · omega
            · exfalso
              have hlt : i < b.length := by omega
              have hb' := (begins_word (x :: w) l' (b.drop i) (k - i) (by rw [List.length_drop]; omega)).mp hb
              have hk1 : NumOk g (b.take (i + 1)) := (numOk_iff hg h9 e (by omega) (by omega)).mpr (by omega)
              have hd := dig_at hg hk1 (i := i) (by rw [List.length_take]; omega)
              have hd' : isDig (b[i]) = true := by simpa using hd
              have ed : b.drop i = b[i] :: b.drop (i + 1) := List.drop_eq_getElem_cons hlt
              have hne : ¬ b[i] = x := fun z => by rw [z, hx] at hd'; cases hd'
              have h0 : shared (b.drop i) (x :: w) = 0 := by
                rw [ed]; unfold shared; rw [if_neg hne]
              rcases hb' with q | ⟨q, _⟩
              · omega
              · rw [h0] at q; simp at q
      · intro q
        by_cases hkc : k ≤ c
        · left
          by_cases h0 : k = 0
          · left; subst h0; simp
          · right; exact (numOk_iff hg h9 e (by omega) hk).mpr hkc
        · right
          refine ⟨(b.take k).drop c, (mem_numbersIn hg).mpr ⟨c, s3, by omega, ?_, rfl⟩, ?_⟩
          · rw [List.take_take, Nat.min_eq_left (by omega)]; exact ⟨n, s2, s1⟩
          · rw [List.drop_take]
            exact (ih (by rw [List.length_drop]; omega)).mpr (by omega)
  | .tray :: _, hf, b, k, hk => hf.elim
end Jm
end

section
set_option Elab.async false
set_option maxRecDepth 100000
namespace Jm
open Pu
/-! ### A line of wires -/
def sWord (k : Nat) : Bytes := ascii (SENDS.getD k "")
def tWord (i : Nat) : Bytes := ascii (TAKES.getD i "")
def sNums (k : Nat) : List Nat := if k = 5 then [sendMost k - 1, ROWS - 1] else [sendMost k - 1]
def tNums (i : Nat) : List Nat := [takeMost i - 1]
/-- blanks and numbers -/
def numParts : List Nat → List Part
  | [] => []
  | g :: l => .word [32] :: .num 0 g :: numParts l
def sForm (k : Nat) : List Part := .word (sWord k) :: numParts (sNums k)
def tForm (i : Nat) : List Part := .word (tWord i) :: numParts (tNums i)
def gtW : Bytes := [32, 62, 32]
def form (k i : Nat) : List Part := sForm k ++ (.word gtW :: (tForm i ++ [.word [10]]))
theorem wireForms_eq : wireForms = (List.range 8).flatMap fun k => (List.range 8).map fun i => form k i := rfl
theorem fit_form : ∀ k, k < 8 → ∀ i, i < 8 → Fit (form k i) := by
  intro k hk i hi
  have hs : ∀ k, k < 8 → sNums k = [sendMost k - 1, ROWS - 1] ∨ sNums k = [sendMost k - 1] := fun k _ => by unfold sNums; split <;> simp
  have b1 : ∀ k, k < 8 → 9 ≤ sendMost k - 1 ∧ sendMost k - 1 < 256 := by decide
  have b2 : ∀ k, k < 8 → 9 ≤ takeMost k - 1 ∧ takeMost k - 1 < 256 := by decide
  have b3 : 9 ≤ ROWS - 1 ∧ ROWS - 1 < 256 := by decide
  have d1 : isDig 32 = false := by decide
  have d2 : isDig 10 = false := by decide
  unfold form sForm tForm tNums
  rcases hs k hk with e | e <;> rw [e] <;> simp only [numParts, List.cons_append, List.nil_append, Fit, gtW]
  · exact ⟨trivial, (b1 k hk).1, (b1 k hk).2, ⟨_, _, _, rfl, d1⟩, trivial, b3.1, b3.2, ⟨_, _, _, rfl, d1⟩, trivial, (b2 i hi).1, (b2 i hi).2, ⟨_, _, _, rfl, d2⟩, trivial⟩
  · exact ⟨trivial, (b1 k hk).1, (b1 k hk).2, ⟨_, _, _, rfl, d1⟩, trivial, (b2 i hi).1, (b2 i hi).2, ⟨_, _, _, rfl, d2⟩, trivial⟩
theorem go_word_no {w : Bytes} {l : List Part} {b : Bytes} (h : shared b w ≠ w.length) : go (.word w :: l) b = (shared b w, [], false) := by
  show (if shared b w = w.length then _ else _) = _
  rw [if_neg h]
theorem go_word_ge {w : Bytes} {l : List Part} {b : Bytes} : shared b w ≤ (go (.word w :: l) b).1 := by
  show _ ≤ (if shared b w = w.length then _ else _ : Nat × List Nat × Bool).1
  split
  · simp; omega
  · simp
theorem go_word_yes {w : Bytes} {l : List Part} {b : Bytes} (h : shared b w = w.length) : go (.word w :: l) b = (w.length + (go l (b.drop w.length)).1, (go l (b.drop w.length)).2) := by
  show (if shared b w = w.length then _ else _) = _
  rw [if_pos h]
theorem go_num_no {lo g : Nat} {l : List Part} {b : Bytes} (h : readNum g b = none) : go (.num lo g :: l) b = (0, [], false) := by
  unfold go; rw [h]
theorem go_num_yes {lo g n c : Nat} {l : List Part} {b : Bytes} (h : readNum g b = some (n, c)) : go (.num lo g :: l) b = (c + (go l (b.drop c)).1, n :: (go l (b.drop c)).2.1, (go l (b.drop c)).2.2) := by
  conv => lhs; unfold go
  rw [h]
theorem go_append : ∀ (f g : List Part) (b : Bytes), go (f ++ g) b = if (go f b).2.2 = true then ((go f b).1 + (go g (b.drop (go f b).1)).1, (go f b).2.1 ++ (go g (b.drop (go f b).1)).2.1, (go g (b.drop (go f b).1)).2.2) else go f b
  | [], g, b => by simp [go]
  | .word w :: l, g, b => by
    have ih := go_append l g (b.drop w.length)
    rw [List.cons_append]
    by_cases h : shared b w = w.length
    · rw [go_word_yes h, go_word_yes h, ih]
      by_cases h2 : (go l (b.drop w.length)).2.2 = true
      · simp only [h2, if_true, List.drop_drop, Nat.add_assoc]
      · simp only [h2]
        simp
    · rw [go_word_no h, go_word_no h]
      simp
  | .num lo m :: l, g, b => by
    rw [List.cons_append]
    cases e : readNum m b with
    | none => rw [go_num_no e, go_num_no e]; simp
    | some p =>
      obtain ⟨n, c⟩ := p
      have ih := go_append l g (b.drop c)
      rw [go_num_yes e, go_num_yes e, ih]
      by_cases h2 : (go l (b.drop c)).2.2 = true
      · simp only [h2, if_true, List.drop_drop, Nat.add_assoc, List.cons_append]
      · simp [h2]
  | .tray :: l, g, b => by simp [go]
/-- the word that shares the most, the first of them -/
def pick (word : Nat → Bytes) (b : Bytes) : Nat := ((List.range 8).find? fun k => (List.range 8).all fun j => decide (shared b (word j) ≤ shared b (word k))).getD 0
theorem exists_max (f : Nat → Nat) : ∀ n, 0 < n → ∃ k, k < n ∧ ∀ j, j < n → f j ≤ f k
  | 1, _ => ⟨0, by omega, fun j hj => by have : j = 0 := by omega
                                         subst this; exact Nat.le_refl _⟩
  | n + 2, _ => by
    obtain ⟨k, hk, h⟩ := exists_max f (n + 1) (by omega)
    by_cases hc : f (n + 1) ≤ f k
    · exact ⟨k, by omega, fun j hj => if e : j = n + 1 then e ▸ hc else h j (by omega)⟩
    · refine ⟨n + 1, by omega, fun j hj => ?_⟩
      by_cases e : j = n + 1
      · subst e; exact Nat.le_refl _
      · have := h j (by omega); omega
theorem pick_spec (word : Nat → Bytes) (b : Bytes) : pick word b < 8 ∧ ∀ j, j < 8 → shared b (word j) ≤ shared b (word (pick word b)) := by
  unfold pick
  cases e : (List.range 8).find? fun k => (List.range 8).all fun j => decide (shared b (word j) ≤ shared b (word k)) with
  | none =>
    exfalso
    obtain ⟨k, hk, h⟩ := exists_max (fun k => shared b (word k)) 8 (by omega)
    have := List.find?_eq_none.mp e k (by simpa using hk)
    apply this
    rw [List.all_eq_true]
    intro j hj
    simpa using h j (by simpa using hj)
  | some k =>
    have h1 := List.mem_of_find?_eq_some e
    have h2 := List.find?_some e
    rw [List.all_eq_true] at h2
    refine ⟨by simpa using h1, fun j hj => ?_⟩
    simpa using h2 j (by simpa using hj)
theorem pick_unique {word : Nat → Bytes} {b : Bytes} {k : Nat} (hk : k < 8) (h : ∀ j, j < 8 → shared b (word j) ≤ shared b (word k) ∧ (j < k → shared b (word j) < shared b (word k))) : pick word b = k := by
  have hp := pick_spec word b
  have e1 := hp.2 k hk
  have e2 := h _ hp.1
  by_cases hlt : pick word b < k
  · have := e2.2 hlt; omega
  by_cases hgt : k < pick word b
  · -- the search would have stopped at k
    exfalso
    unfold pick at hgt
    cases e : (List.range 8).find? fun k => (List.range 8).all fun j => decide (shared b (word j) ≤ shared b (word k)) with
    | none => rw [e] at hgt; simp at hgt
    | some m =>
      rw [e] at hgt
      have hgt' : k < m := hgt
      obtain ⟨_, pre, post, hs, hno⟩ := List.find?_eq_some_iff_append.mp e
      have hkin : k ∈ pre := by
        have hm : m < 8 := by simpa using List.mem_of_find?_eq_some e
        have hnd : (List.range 8).Pairwise (· < ·) := List.pairwise_lt_range
        rw [hs] at hnd
        have hk8 : k ∈ pre ++ m :: post := by rw [← hs]; simpa using hk
        rcases List.mem_append.mp hk8 with q | q
        · exact q
        · exfalso
          rcases List.mem_cons.mp q with q | q
          · omega
          · have := (List.pairwise_cons.mp (List.pairwise_append.mp hnd).2.1).1 k q
            omega
      have hno' := hno k hkin
      have : ((List.range 8).all fun j => decide (shared b (word j) ≤ shared b (word k))) = true := by
        rw [List.all_eq_true]
        intro j hj
        simpa using (h j (by simpa using hj)).1
      rw [this] at hno'
      simp at hno'
  · omega
theorem sFree : ∀ j, j < 8 → ∀ k, k < 8 → j ≠ k → (sWord j).isPrefixOf (sWord k) = false := by decide +kernel
theorem tFree : ∀ j, j < 8 → ∀ k, k < 8 → j ≠ k → (tWord j).isPrefixOf (tWord k) = false := by decide +kernel
/-- another word isn't whole, and shares no more -/
theorem choice {word : Nat → Bytes} {b : Bytes} (free : ∀ j, j < 8 → ∀ k, k < 8 → j ≠ k → (word j).isPrefixOf (word k) = false) {j k : Nat} (hj : j < 8) (hk : k < 8) (hjk : j ≠ k) (hm : shared b (word j) ≤ shared b (word k)) :
    shared b (word j) ≠ (word j).length := by
  intro hf
  have p1 : word j <+: b := (pre_iff _ _).mpr hf
  have p2 : b.take (shared b (word k)) <+: word k := (take_pre_iff b (word k) _ (shared_le_b _ _)).mpr (Nat.le_refl _)
  have p3 : word j <+: b.take (shared b (word k)) := by
    rw [List.prefix_take_iff]
    exact ⟨p1, by omega⟩
  have := free j hj k hk hjk
  rw [List.isPrefixOf_iff_prefix.mpr (p3.trans p2)] at this
  cases this
/-- which kinds the program goes by -/
def ks (b : Bytes) : Nat := pick sWord b
def hubS (b : Bytes) : Nat × List Nat × Bool := go (sForm (ks b)) b
def kt (b : Bytes) : Nat := pick tWord (b.drop ((hubS b).1 + 3))
def full (b : Bytes) : Nat × List Nat × Bool := go (form (ks b) (kt b)) b
theorem ks_lt (b : Bytes) : ks b < 8 := (pick_spec _ _).1
theorem kt_lt (b : Bytes) : kt b < 8 := (pick_spec _ _).1
theorem best (b : Bytes) {k i : Nat} (hk : k < 8) (hi : i < 8) : (go (form k i) b).1 ≤ (full b).1 ∧ ((go (form k i) b).2.2 = true → k = ks b ∧ i = kt b) := by
  by_cases e : k = ks b
  · subst e
    unfold full
    have e1 : ∀ i, form (ks b) i = sForm (ks b) ++ (.word gtW :: (tForm i ++ [.word [10]])) := fun _ => rfl
    rw [e1 i, e1 (kt b), go_append, go_append]
    by_cases hd : (go (sForm (ks b)) b).2.2 = true
    · simp only [hd, if_true]
      by_cases hg : shared (b.drop (go (sForm (ks b)) b).1) gtW = gtW.length
      · rw [go_word_yes hg, go_word_yes hg]
        simp only [List.drop_drop]
        by_cases ei : i = kt b
        · subst ei; simp
        · have hp : shared (b.drop ((hubS b).1 + 3)) (tWord i) ≤ shared (b.drop ((hubS b).1 + 3)) (tWord (kt b)) := (pick_spec tWord _).2 i hi
          have hc := choice tFree hi (kt_lt b) ei hp
          have e3 : (go (sForm (ks b)) b).1 + gtW.length = (hubS b).1 + 3 := rfl
          rw [e3]
          have ex : tForm i ++ [Part.word [10]] = .word (tWord i) :: (numParts (tNums i) ++ [.word [10]]) := rfl
          have ey : tForm (kt b) ++ [Part.word [10]] = .word (tWord (kt b)) :: (numParts (tNums (kt b)) ++ [.word [10]]) := rfl
          rw [ex, ey, go_word_no hc]
          have := go_word_ge (w := tWord (kt b)) (l := numParts (tNums (kt b)) ++ [.word [10]]) (b := b.drop ((hubS b).1 + 3))
          refine ⟨by simp only []; omega, by simp⟩
      · rw [go_word_no hg, go_word_no hg]
        simp
    · simp only [hd]
      simp [hd]
  · have hp := (pick_spec sWord b).2 k hk
    have hc := choice sFree hk (ks_lt b) e hp
    have ex : form k i = .word (sWord k) :: (numParts (sNums k) ++ (.word gtW :: (tForm i ++ [.word [10]]))) := rfl
    have ey : form (ks b) (kt b) = .word (sWord (ks b)) :: (numParts (sNums (ks b)) ++ (.word gtW :: (tForm (kt b) ++ [.word [10]]))) := rfl
    unfold full
    rw [ex, ey, go_word_no hc]
    have := go_word_ge (w := sWord (ks b)) (l := numParts (sNums (ks b)) ++ (.word gtW :: (tForm (kt b) ++ [.word [10]]))) (b := b)
    refine ⟨Nat.le_trans hp this, by simp⟩
theorem mem_wireForms {f : List Part} : f ∈ wireForms ↔ ∃ k i, k < 8 ∧ i < 8 ∧ f = form k i := by
  rw [wireForms_eq]
  simp only [List.mem_flatMap, List.mem_map, List.mem_range]
  constructor
  · rintro ⟨k, hk, i, hi, rfl⟩; exact ⟨k, i, hk, hi, rfl⟩
  · rintro ⟨k, i, hk, hi, rfl⟩; exact ⟨k, hk, i, hi, rfl⟩
/-- how long at most -/
def most : List Part → Nat
  | [] => 0
  | .word w :: l => w.length + most l
  | .num _ _ :: l => 3 + most l
  | .tray :: l => 1 + most l
theorem go_most : ∀ (f : List Part), Fit f → ∀ b, (go f b).1 ≤ most f
  | [], _, b => by simp [go]
  | .word w :: l, hf, b => by
    have ih := go_most l hf (b.drop w.length)
    show (if shared b w = w.length then _ else _ : Nat × List Nat × Bool).1 ≤ w.length + most l
    have := shared_le_w b w
    split
    · simp only []; omega
    · simp only []; omega
  | .num lo g :: l, hf, b => by
    obtain ⟨_, h9, hg, _, hl⟩ := hf
    unfold go most
    cases e : readNum g b with
    | none => simp
    | some p =>
      obtain ⟨n, c⟩ := p
      obtain ⟨s1, s2, s3, s4, s5⟩ := readNum_some hg h9 e
      have ih := go_most l hl (b.drop c)
      have h3 := (dec_len n (by omega)).2
      have : (b.take c).length = c := by rw [List.length_take]; omega
      rw [← s1] at this
      simp only []
      omega
  | .tray :: _, hf, b => hf.elim
theorem form_most : ∀ k, k < 8 → ∀ i, i < 8 → most (form k i) ≤ 80 := by decide +kernel
theorem isLine_iff (b : Bytes) : (wireForms.any fun f => isBy f b) = true ↔ (full b).2.2 = true ∧ (full b).1 = b.length := by
  rw [List.any_eq_true]
  constructor
  · rintro ⟨f, hf, h⟩
    obtain ⟨k, i, hk, hi, rfl⟩ := mem_wireForms.mp hf
    have h2 := (isBy_go _ (fit_form k hk i hi) b).mp h
    obtain ⟨rfl, rfl⟩ := (best b hk hi).2 h2.1
    exact h2
  · intro h
    exact ⟨_, mem_wireForms.mpr ⟨_, _, ks_lt b, kt_lt b, rfl⟩, (isBy_go _ (fit_form _ (ks_lt b) _ (kt_lt b)) b).mpr h⟩
theorem begins_iff (b : Bytes) {k : Nat} (hk : k ≤ b.length) : (wireForms.any fun f => beginsBy f (b.take k)) = true ↔ k ≤ (full b).1 := by
  rw [List.any_eq_true]
  constructor
  · rintro ⟨f, hf, h⟩
    obtain ⟨k', i, hk', hi, rfl⟩ := mem_wireForms.mp hf
    have h2 := (begins_go _ (fit_form k' hk' i hi) b k hk).mp h
    have := (best b hk' hi).1
    omega
  · intro h
    exact ⟨_, mem_wireForms.mpr ⟨_, _, ks_lt b, kt_lt b, rfl⟩, (begins_go _ (fit_form _ (ks_lt b) _ (kt_lt b)) b k hk).mpr h⟩
theorem find_rev (p : Nat → Bool) : ∀ n c, c < n → p c = true → (∀ j, c < j → j < n → p j = false) → (List.range n).reverse.find? p = some c
  | 0, c, h, _, _ => by omega
  | n + 1, c, h, hp, hn => by
    rw [List.range_succ, List.reverse_append]
    show (n :: (List.range n).reverse).find? p = some c
    by_cases e : c = n
    · subst e; rw [List.find?_cons, hp]
    · rw [List.find?_cons, hn n (by omega) (by omega)]
      exact find_rev p n c (by omega) hp fun j h1 h2 => hn j h1 (by omega)
theorem right_eq (b : Bytes) : rightTo wireForms b = (full b).1 := by
  unfold rightTo
  have h1 : (full b).1 ≤ b.length := go_le _ _
  have h2 : (full b).1 ≤ 80 := Nat.le_trans (go_most _ (fit_form _ (ks_lt b) _ (kt_lt b)) b) (form_most _ (ks_lt b) _ (kt_lt b))
  rw [find_rev _ _ (full b).1 (by omega) ((begins_iff b h1).mpr (Nat.le_refl _)) fun j h3 h4 => ?_]
  · rfl
  · rw [Bool.eq_false_iff]
    intro h
    have := (begins_iff b (k := j) (by omega)).mp h
    omega
end Jm
end

section
set_option Elab.async false
set_option maxRecDepth 100000
set_option linter.all false
namespace Jm
open Pu
/-! ### The text of what was read -/
def textOf : List Part → List Nat → Bytes
  | .word w :: l, ns => w ++ textOf l ns
  | .num _ _ :: l, n :: ns => dec n ++ textOf l ns
  | _, _ => []
/-- the numbers within their ranges, as many as there are -/
def Within : List Part → List Nat → Prop
  | [], ns => ns = []
  | .word _ :: l, ns => Within l ns
  | .num _ g :: l, n :: ns => n ≤ g ∧ Within l ns
  | .num _ _ :: _, [] => False
  | .tray :: _, _ => False
theorem go_text : ∀ (f : List Part), Fit f → ∀ b, (go f b).2.2 = true → b.take (go f b).1 = textOf f (go f b).2.1 ∧ Within f (go f b).2.1
  | [], _, b, _ => by simp [go, textOf, Within]
  | .word w :: l, hf, b, h => by
    by_cases hs : shared b w = w.length
    · rw [go_word_yes hs] at h ⊢
      have ih := go_text l hf (b.drop w.length) h
      simp only [] at h ⊢
      refine ⟨?_, ih.2⟩
      show b.take (w.length + _) = w ++ textOf l _
      obtain ⟨t, ht⟩ := (pre_iff b w).mpr hs
      subst ht
      rw [← ih.1]
      rw [List.take_append, List.take_of_length_le (by omega)]
      simp
    · rw [go_word_no hs] at h; cases h
  | .num lo g :: l, hf, b, h => by
    obtain ⟨_, h9, hg, _, hl⟩ := hf
    cases e : readNum g b with
    | none => rw [go_num_no e] at h; cases h
    | some p =>
      obtain ⟨n, c⟩ := p
      rw [go_num_yes e] at h ⊢
      obtain ⟨s1, s2, s3, s4, s5⟩ := readNum_some hg h9 e
      have ih := go_text l hl (b.drop c) h
      simp only [] at h ⊢
      refine ⟨?_, s2, ih.2⟩
      show b.take (c + _) = dec n ++ textOf l _
      rw [← ih.1, s1, List.take_add]
  | .tray :: _, hf, b, h => hf.elim
/-- a wire of its kinds and numbers -/
def wireN (k i : Nat) (ns : List Nat) : Wire := if k = 5 then ⟨k, ns.getD 0 0, ns.getD 1 0, i, ns.getD 2 0⟩ else ⟨k, ns.getD 0 0, 0, i, ns.getD 1 0⟩
theorem text_form (k i : Nat) (ns : List Nat) (h : Within (form k i) ns) : textOf (form k i) ns = (wireN k i ns).text := by
  unfold form sForm tForm sNums tNums wireN Wire.text at *
  by_cases e : k = 5
  · subst e
    simp only [if_true, numParts, List.cons_append, List.nil_append, Within] at h ⊢
    match ns, h with
    | [a, b, c], _ => simp [textOf, sWord, tWord, gtW, ascii]
    | [], h => exact h.elim
    | [_], h => exact h.2.elim
    | [_, _], h => exact h.2.2.elim
    | _ :: _ :: _ :: _ :: _, h => exact absurd h.2.2.2 (by simp [Within])
  · simp only [e, if_false, numParts, List.cons_append, List.nil_append, Within] at h ⊢
    match ns, h with
    | [a, b], _ => simp [textOf, sWord, tWord, gtW, ascii]
    | [], h => exact h.elim
    | [_], h => exact h.2.elim
    | _ :: _ :: _ :: _, h => exact absurd h.2.2 (by simp [Within])
theorem ok_form {k i : Nat} (hk : k < 8) (hi : i < 8) {ns : List Nat} (h : Within (form k i) ns) : (wireN k i ns).ok = true := by
  have b1 : ∀ k, k < 8 → 1 ≤ sendMost k := by decide
  have b2 : ∀ k, k < 8 → 1 ≤ takeMost k := by decide
  have b1 := b1 k hk
  have b2 := b2 i hi
  have b3 : ROWS = 12 := rfl
  unfold form sForm tForm sNums tNums at h
  unfold wireN Wire.ok
  by_cases e : k = 5
  · subst e
    simp only [if_true, numParts, List.cons_append, List.nil_append, Within] at h ⊢
    match ns, h with
    | [a, b, c], h =>
      obtain ⟨h1, h2, h3, _⟩ := h
      simp
      omega
    | [], h => exact h.elim
    | [_], h => exact h.2.elim
    | [_, _], h => exact h.2.2.elim
    | _ :: _ :: _ :: _ :: _, h => exact absurd h.2.2.2 (by simp [Within])
  · simp only [e, if_false, numParts, List.cons_append, List.nil_append, Within] at h ⊢
    match ns, h with
    | [a, b], h =>
      obtain ⟨h1, h2, _⟩ := h
      simp
      omega
    | [], h => exact h.elim
    | [_], h => exact h.2.elim
    | _ :: _ :: _ :: _, h => exact absurd h.2.2 (by simp [Within])
theorem wordsOf_sep : ∀ (x : Bytes) (r : Bytes), (∀ c ∈ x, c ≠ 32 ∧ c ≠ 10) → ∀ d : UInt8, d = 32 ∨ d = 10 → wordsOf (x ++ d :: r) = x :: wordsOf r
  | [], r, _, d, hd => by
    show (if d = 32 ∨ d = 10 then [] :: wordsOf r else _) = [] :: wordsOf r
    rw [if_pos hd]
  | c :: x, r, h, d, hd => by
    have ih := wordsOf_sep x r (fun z hz => h z (List.mem_cons_of_mem _ hz)) d hd
    show wordsOf (c :: (x ++ d :: r)) = (c :: x) :: wordsOf r
    have hc := h c List.mem_cons_self
    show (if c = 32 ∨ c = 10 then _ else match wordsOf (x ++ d :: r) with | w :: l => (c :: w) :: l | [] => [[c]]) = _
    rw [if_neg (by rintro (q | q); exact hc.1 q; exact hc.2 q), ih]
theorem dec_plain {n : Nat} (h : n < 256) : ∀ c ∈ dec n, c ≠ 32 ∧ c ≠ 10 := by
  intro c hc
  have := dec_dig n h
  rw [List.all_eq_true] at this
  have := this c hc
  constructor
  · rintro rfl; exact absurd this (by decide)
  · rintro rfl; exact absurd this (by decide)
theorem sWord_plain : ∀ k, k < 8 → ∀ c ∈ sWord k, c ≠ 32 ∧ c ≠ 10 := by decide +kernel
theorem tWord_plain : ∀ k, k < 8 → ∀ c ∈ tWord k, c ≠ 32 ∧ c ≠ 10 := by decide +kernel
theorem place_s : ∀ k, k < 8 → placeIn SENDS (sWord k) = k := by decide +kernel
theorem place_t : ∀ k, k < 8 → placeIn TAKES (tWord k) = k := by decide +kernel
theorem wireOf_text {w : Wire} (h : w.ok = true) : wireOf w.text = w := by
  obtain ⟨k, n, m, i, t⟩ := w
  unfold Wire.ok at h
  simp only [Bool.and_eq_true, decide_eq_true_iff] at h
  obtain ⟨hk, hn, hm, hi, ht⟩ := h
  have hn' : n < 256 := by
    unfold sendMost at hn
    have : COLUMNS = 80 := rfl
    have : HUBS = 256 := rfl
    have : BOXES = 64 := rfl
    split at hn
    · omega
    · split at hn <;> omega
  have ht' : t < 256 := by
    unfold takeMost at ht
    have : HUBS = 256 := rfl
    have : BOXES = 64 := rfl
    split at ht <;> omega
  have gtp : ∀ c ∈ ([62] : Bytes), c ≠ 32 ∧ c ≠ 10 := by decide
  unfold wireOf
  by_cases e : k = 5
  · subst e
    have hm' : m < 256 := by
      have : ROWS = 12 := rfl
      simp only [if_true, decide_eq_true_iff] at hm
      omega
    have et : Wire.text ⟨5, n, m, i, t⟩ = sWord 5 ++ 32 :: (dec n ++ 32 :: (dec m ++ 32 :: ([62] ++ 32 :: (tWord i ++ 32 :: (dec t ++ 10 :: []))))) := by
      simp [Wire.text, sWord, tWord, ascii]
    rw [et, wordsOf_sep _ _ (sWord_plain 5 (by omega)) _ (.inl rfl), wordsOf_sep _ _ (dec_plain hn') _ (.inl rfl), wordsOf_sep _ _ (dec_plain hm') _ (.inl rfl), wordsOf_sep _ _ gtp _ (.inl rfl),
      wordsOf_sep _ _ (tWord_plain i (by omega)) _ (.inl rfl), wordsOf_sep _ _ (dec_plain ht') _ (.inr rfl)]
    simp only [wordsOf]
    rw [place_s 5 (by omega), if_pos rfl, place_t i (by omega), dec_val n hn', dec_val m hm', dec_val t ht']
  · have hm0 : m = 0 := by simpa [e] using hm
    subst hm0
    have et : Wire.text ⟨k, n, 0, i, t⟩ = sWord k ++ 32 :: (dec n ++ 32 :: ([62] ++ 32 :: (tWord i ++ 32 :: (dec t ++ 10 :: [])))) := by
      simp [Wire.text, sWord, tWord, ascii, e]
    rw [et, wordsOf_sep _ _ (sWord_plain k (by omega)) _ (.inl rfl), wordsOf_sep _ _ (dec_plain hn') _ (.inl rfl), wordsOf_sep _ _ gtp _ (.inl rfl),
      wordsOf_sep _ _ (tWord_plain i (by omega)) _ (.inl rfl), wordsOf_sep _ _ (dec_plain ht') _ (.inr rfl)]
    simp only [wordsOf]
    rw [place_s k (by omega), place_t i (by omega), dec_val n hn', dec_val t ht']
/-- the wire that the program reads -/
def wireAt (b : Bytes) : Wire := wireN (ks b) (kt b) (full b).2.1
theorem wire_read {b : Bytes} (h : (full b).2.2 = true) (hl : (full b).1 = b.length) : wireOf b = wireAt b ∧ (wireAt b).ok = true := by
  obtain ⟨h1, h2⟩ := go_text _ (fit_form _ (ks_lt b) _ (kt_lt b)) b h
  have h1' : b.take (full b).1 = textOf (form (ks b) (kt b)) (full b).2.1 := h1
  rw [hl, List.take_length, text_form (ks b) (kt b) (full b).2.1 h2] at h1'
  have hok := ok_form (ks_lt b) (kt_lt b) h2
  refine ⟨?_, hok⟩
  conv => lhs; rw [h1']
  exact wireOf_text hok
/-! ### Lines -/
theorem pieces_cons (c : UInt8) (r : Bytes) : pieces (c :: r) = if c = 10 then [c] :: pieces r else match pieces r with
    | p :: l => (c :: p) :: l
    | [] => [[c]] := rfl
def glue (line : Bytes) : List Bytes → List Bytes
  | [] => if line = [] then [] else [line]
  | p :: l => (line ++ p) :: l
/-- lines and the line begun, behind a part of the text -/
def parted : List Bytes × Bytes → Bytes → List Bytes × Bytes
  | st, [] => st
  | st, c :: r => parted (if c = 10 then (st.1 ++ [st.2 ++ [c]], []) else (st.1, st.2 ++ [c])) r
theorem parted_pieces : ∀ (r : Bytes) (st : List Bytes × Bytes), (if (parted st r).2 = [] then (parted st r).1 else (parted st r).1 ++ [(parted st r).2]) = st.1 ++ (if st.2 = [] then pieces r else glue st.2 (pieces r))
  | [], (ls, l) => by
    simp only [parted, pieces, glue]
    by_cases h : l = [] <;> simp [h]
  | c :: r, (ls, l) => by
    have ih := parted_pieces r (if c = 10 then (ls ++ [l ++ [c]], []) else (ls, l ++ [c]))
    have ep : parted (ls, l) (c :: r) = parted (if c = 10 then (ls ++ [l ++ [c]], []) else (ls, l ++ [c])) r := rfl
    rw [ep, ih, pieces_cons]
    by_cases hc : c = 10
    · simp only [hc, if_true]
      by_cases h : l = [] <;> simp [h, glue]
    · simp only [hc, if_false]
      have hne : ¬ (l ++ [c] = []) := by simp
      rw [if_neg hne]
      cases e : pieces r with
      | nil =>
        by_cases h : l = [] <;> simp [h, glue]
      | cons p q =>
        by_cases h : l = [] <;> simp [h, glue]
theorem parted_snoc : ∀ (r : Bytes) (st : List Bytes × Bytes) (c : UInt8), parted st (r ++ [c]) = if c = 10 then ((parted st r).1 ++ [(parted st r).2 ++ [c]], []) else ((parted st r).1, (parted st r).2 ++ [c])
  | [], st, c => rfl
  | x :: r, st, c => parted_snoc r _ c
theorem pieces_of (b : Bytes) : pieces b = if (parted ([], []) b).2 = [] then (parted ([], []) b).1 else (parted ([], []) b).1 ++ [(parted ([], []) b).2] := by
  rw [parted_pieces]; simp
theorem parted_len : ∀ (r : Bytes) (st : List Bytes × Bytes), ((parted st r).1.map List.length).sum + (parted st r).2.length = (st.1.map List.length).sum + st.2.length + r.length ∧ (parted st r).1.length ≤ st.1.length + r.length
  | [], st => by simp [parted]
  | c :: r, st => by
    have ih := parted_len r (if c = 10 then (st.1 ++ [st.2 ++ [c]], []) else (st.1, st.2 ++ [c]))
    show _ = _ ∧ _
    by_cases hc : c = 10
    · simp only [hc, if_true] at ih
      simp only [parted, hc, if_true]
      simp at ih ⊢
      omega
    · simp only [hc, if_false] at ih
      simp only [parted, hc, if_false]
      simp at ih ⊢
      omega
/-- a line end stands at a line's end -/
def Lined (p : Bytes) : Prop := ∀ i, p[i]? = some 10 → i + 1 = p.length
theorem pieces_lined : ∀ (b : Bytes), ∀ p ∈ pieces b, Lined p
  | [], p, h => by simp [pieces] at h
  | c :: r, p, h => by
    rw [pieces_cons] at h
    by_cases hc : c = 10
    · rw [if_pos hc] at h
      obtain rfl | h := List.mem_cons.mp h
      · intro i hi
        cases i with
        | zero => rfl
        | succ i => simp at hi
      · exact pieces_lined r p h
    · rw [if_neg hc] at h
      have ih := pieces_lined r
      cases e : pieces r with
      | nil =>
        rw [e] at h
        simp at h
        subst h
        intro i hi
        cases i with
        | zero => simp at hi; exact absurd hi hc
        | succ i => simp at hi
      | cons q l =>
        rw [e] at h ih
        obtain rfl | h := List.mem_cons.mp h
        · intro i hi
          cases i with
          | zero => simp at hi; exact absurd hi hc
          | succ i =>
            have := ih q List.mem_cons_self i (by simpa using hi)
            simp; omega
        · exact ih p (List.mem_cons_of_mem _ h)
theorem full_end {b : Bytes} (h : (full b).2.2 = true) : ∃ n, (full b).1 = n + 1 ∧ b[n]? = some 10 := by
  obtain ⟨h1, h2⟩ := go_text _ (fit_form _ (ks_lt b) _ (kt_lt b)) b h
  have h1' : b.take (full b).1 = textOf (form (ks b) (kt b)) (full b).2.1 := h1
  rw [text_form (ks b) (kt b) (full b).2.1 h2] at h1'
  have hle : (full b).1 ≤ b.length := go_le _ _
  obtain ⟨x, hx⟩ : ∃ x : Bytes, (wireN (ks b) (kt b) (full b).2.1).text = x ++ [10] := by
    unfold Wire.text
    generalize wireN (ks b) (kt b) (full b).2.1 = w
    exact ⟨ascii (SENDS.getD w.kind "") ++ (32 :: (dec w.n ++ ((if w.kind = 5 then 32 :: dec w.m else []) ++ (ascii " > " ++ (ascii (TAKES.getD w.into "") ++ (32 :: dec w.k)))))), by simp⟩
  have hlen : (full b).1 = x.length + 1 := by
    have := congrArg List.length h1'
    have hx' := congrArg List.length hx
    have h2 : (wireN (ks b) (kt b) (full b).2.1).text.length = x.length + 1 := by simpa using hx'
    rw [h2, List.length_take] at this
    omega
  refine ⟨x.length, hlen, ?_⟩
  have h3 : (b.take (full b).1)[x.length]? = some 10 := by rw [h1', hx]; simp
  rw [List.getElem?_take] at h3
  split at h3
  · exact h3
  · cases h3
/-- of a line: the program's word and the specification's -/
theorem line_iff {p : Bytes} (hp : Lined p) : (wireForms.any fun f => isBy f p) = (full p).2.2 := by
  rw [Bool.eq_iff_iff, isLine_iff]
  constructor
  · exact fun h => h.1
  · intro h
    obtain ⟨n, h1, h2⟩ := full_end h
    exact ⟨h, by rw [h1]; exact hp n h2⟩
theorem line_wire {p : Bytes} (hp : Lined p) (h : (full p).2.2 = true) : wireOf p = wireAt p ∧ (wireAt p).ok = true := by
  obtain ⟨n, h1, h2⟩ := full_end h
  exact wire_read h (by rw [h1]; exact hp n h2)
/-! ### The text's fault -/
theorem find_zip {α : Type} (q : α × Nat → Bool) : ∀ (l : List α) (s i : Nat) (x : α), l[i]? = some x → q (x, s + i) = true → (∀ j y, j < i → l[j]? = some y → q (y, s + j) = false) → (l.zipIdx s).find? q = some (x, s + i)
  | [], s, i, x, h, _, _ => by simp at h
  | a :: l, s, 0, x, h, hq, _ => by
    simp at h; subst h
    rw [List.zipIdx_cons, List.find?_cons]
    have : q (a, s) = true := hq
    rw [this]; rfl
  | a :: l, s, i + 1, x, h, hq, hn => by
    rw [List.zipIdx_cons, List.find?_cons]
    have := hn 0 a (by omega) rfl
    simp only [Nat.add_zero] at this
    rw [this]
    have e : s + (i + 1) = s + 1 + i := by omega
    rw [e]
    exact find_zip q l (s + 1) i x (by simpa using h) (by rw [← e]; exact hq) fun j y hj hy => by
      have := hn (j + 1) y (by omega) (by simpa using hy)
      have e2 : s + (j + 1) = s + 1 + j := by omega
      rwa [e2] at this
theorem find_zip_none {α : Type} (q : α × Nat → Bool) : ∀ (l : List α) (s : Nat), (∀ j y, l[j]? = some y → q (y, s + j) = false) → (l.zipIdx s).find? q = none
  | [], s, _ => rfl
  | a :: l, s, hn => by
    rw [List.zipIdx_cons, List.find?_cons]
    have := hn 0 a rfl
    simp only [Nat.add_zero] at this
    rw [this]
    exact find_zip_none q l (s + 1) fun j y hy => by
      have := hn (j + 1) y (by simpa using hy)
      have e2 : s + (j + 1) = s + 1 + j := by omega
      rwa [e2] at this
theorem fault_at {b p : Bytes} {i : Nat} (h : (pieces b)[i]? = some p) (hb : ∀ j y, j < i → (pieces b)[j]? = some y → j < 256 ∧ (full y).2.2 = true) (hf : 256 ≤ i ∨ (full p).2.2 = false) :
    textFault wireForms WIRES b = some (i, if 256 ≤ i then 0 else (full p).1) := by
  have hmem : ∀ {j : Nat} {y : Bytes}, (pieces b)[j]? = some y → Lined y := fun hy => pieces_lined b _ (List.mem_of_getElem? hy)
  unfold textFault
  rw [find_zip _ (pieces b) 0 i p h (by
      have := line_iff (hmem h)
      rw [this]
      simp only [Nat.zero_add, Bool.or_eq_true, decide_eq_true_iff]
      rcases hf with q | q
      · exact .inl q
      · exact .inr (by rw [q]; rfl)) (fun j y hj hy => by
      have h1 := hb j y hj hy
      rw [line_iff (hmem hy), h1.2]
      simp only [Nat.zero_add, Bool.not_true, Bool.or_false, decide_eq_false_iff_not]
      have : WIRES = 256 := rfl
      omega)]
  simp only [Option.map_some, Nat.zero_add, right_eq]
  rfl
theorem fault_none {b : Bytes} (hb : ∀ j y, (pieces b)[j]? = some y → j < 256 ∧ (full y).2.2 = true) : textFault wireForms WIRES b = none := by
  have hmem : ∀ {j : Nat} {y : Bytes}, (pieces b)[j]? = some y → Lined y := fun hy => pieces_lined b _ (List.mem_of_getElem? hy)
  unfold textFault
  rw [find_zip_none _ (pieces b) 0 (fun j y hy => by
      have h1 := hb j y hy
      rw [line_iff (hmem hy), h1.2]
      simp only [Nat.zero_add, Bool.not_true, Bool.or_false, decide_eq_false_iff_not]
      have : WIRES = 256 := rfl
      omega)]
  rfl
end Jm
end

section
set_option Elab.async false
set_option maxRecDepth 100000
set_option linter.all false
namespace Jm
open Pu
/-! ### Rounds -/
def Edge (l : List Wire) (a b : Box) : Prop := ∃ w ∈ l, w.outOf = some a ∧ w.inTo = some b
inductive Reach (l : List Wire) (b : Box) : Box → Prop
  | refl : Reach l b b
  | step {x y : Box} : Reach l b x → Edge l x y → Reach l b y
theorem mem_sentTo {l : List Wire} {bs : List Box} {y : Box} : y ∈ sentTo l bs ↔ ∃ x ∈ bs, Edge l x y := by
  unfold sentTo Edge
  rw [List.mem_filterMap]
  constructor
  · rintro ⟨w, hw, h⟩
    cases e : w.outOf with
    | none => rw [e] at h; cases h
    | some a =>
      rw [e] at h
      simp only [] at h
      split at h
      · rename_i hc
        exact ⟨a, by simpa using hc, w, hw, e, h⟩
      · cases h
  · rintro ⟨x, hx, w, hw, h1, h2⟩
    refine ⟨w, hw, ?_⟩
    rw [h1]
    simp only []
    rw [if_pos (by simpa using hx)]
    exact h2
theorem mem_more {l : List Wire} {bs : List Box} {y : Box} : y ∈ ((sentTo l bs).eraseDups.filter fun (b : Box) => !bs.contains b) ↔ (∃ x ∈ bs, Edge l x y) ∧ y ∉ bs := by
  rw [List.mem_filter, List.mem_eraseDups, mem_sentTo]
  simp
theorem comeTo_sub {l : List Wire} : ∀ (f : Nat) (bs : List Box) (b : Box), (∀ x ∈ bs, Reach l b x) → ∀ y ∈ comeTo l f bs, Reach l b y
  | 0, bs, b, h, y, hy => h y hy
  | f + 1, bs, b, h, y, hy => by
    unfold comeTo at hy
    simp only [] at hy
    split at hy
    · exact h y hy
    · refine comeTo_sub f _ b (fun x hx => ?_) y hy
      rcases List.mem_append.mp hx with q | q
      · exact h x q
      · obtain ⟨⟨z, hz, e⟩, _⟩ := mem_more.mp q
        exact .step (h z hz) e
theorem comeTo_mono {l : List Wire} : ∀ (f : Nat) (bs : List Box), ∀ y ∈ bs, y ∈ comeTo l f bs
  | 0, bs, y, hy => hy
  | f + 1, bs, y, hy => by
    unfold comeTo
    simp only []
    split
    · exact hy
    · exact comeTo_mono f _ y (List.mem_append_left _ hy)
theorem nodup_eraseDups {α : Type} [BEq α] [LawfulBEq α] : ∀ (n : Nat) (l : List α), l.length ≤ n → l.eraseDups.Nodup
  | _, [], _ => by simp
  | 0, a :: l, h => by simp at h
  | n + 1, a :: l, h => by
    rw [List.eraseDups_cons]
    refine List.nodup_cons.mpr ⟨?_, ?_⟩
    · intro hm
      rw [List.mem_eraseDups, List.mem_filter] at hm
      simp at hm
    · exact nodup_eraseDups n _ (Nat.le_trans (List.length_filter_le _ _) (by simpa using h))
theorem nodup_len {α : Type} [BEq α] [LawfulBEq α] : ∀ (l U : List α), l.Nodup → (∀ x ∈ l, x ∈ U) → l.length ≤ U.length
  | [], U, _, _ => by simp
  | a :: l, U, hn, hs => by
    obtain ⟨h1, h2⟩ := List.nodup_cons.mp hn
    have ha := hs a List.mem_cons_self
    have ih := nodup_len l (U.erase a) h2 fun x hx => (List.mem_erase_of_ne (fun e => h1 (by rw [← e]; exact hx))).mpr (hs x (List.mem_cons_of_mem _ hx))
    rw [List.length_erase_of_mem ha] at ih
    have : 0 < U.length := List.length_pos_of_mem ha
    simp; omega
theorem comeTo_closed {l : List Wire} {U : List Box} (hU : ∀ x y, Edge l x y → y ∈ U) : ∀ (f : Nat) (bs : List Box), bs.Nodup → (∀ x ∈ bs, x ∈ U) → U.length < bs.length + f → ∀ x ∈ comeTo l f bs, ∀ y, Edge l x y → y ∈ comeTo l f bs
  | 0, bs, hn, hs, hlt, x, hx, y, e => by
    exfalso
    have := nodup_len bs U hn hs
    omega
  | f + 1, bs, hn, hs, hlt, x, hx, y, e => by
    unfold comeTo at hx ⊢
    simp only [] at hx ⊢
    split
    · rename_i hm
      rw [if_pos hm] at hx
      by_cases hy : y ∈ bs
      · exact hy
      · have : y ∈ ((sentTo l bs).eraseDups.filter fun (b : Box) => !bs.contains b) := mem_more.mpr ⟨⟨x, hx, e⟩, hy⟩
        rw [hm] at this
        cases this
    · rename_i hm
      rw [if_neg hm] at hx
      refine comeTo_closed hU f _ ?_ ?_ ?_ x hx y e
      · rw [List.nodup_append]
        refine ⟨hn, (nodup_eraseDups _ _ (Nat.le_refl _)).sublist List.filter_sublist, ?_⟩
        intro a ha b hb hab
        subst hab
        exact (mem_more.mp hb).2 ha
      · intro a ha
        rcases List.mem_append.mp ha with q | q
        · exact hs a q
        · obtain ⟨⟨z, _, e⟩, _⟩ := mem_more.mp q
          exact hU z a e
      · rw [List.length_append]
        have : 0 < ((sentTo l bs).eraseDups.filter fun (b : Box) => !bs.contains b).length := List.length_pos_iff.mpr hm
        omega
theorem mem_comeTo {l : List Wire} (hl : l.length ≤ 256) (b a : Box) : a ∈ comeTo l 260 [b] ↔ Reach l b a := by
  constructor
  · exact comeTo_sub 260 [b] b (fun x hx => by rw [List.mem_singleton.mp hx]; exact .refl) a
  · intro h
    have hU : ∀ x y, Edge l x y → y ∈ b :: l.filterMap Wire.inTo := fun x y ⟨w, hw, _, h2⟩ => List.mem_cons_of_mem _ (List.mem_filterMap.mpr ⟨w, hw, h2⟩)
    have hc := comeTo_closed hU 260 [b] (by simp) (by simp) (by
      have := List.length_filterMap_le Wire.inTo l
      simp; omega)
    induction h with
    | refl => exact comeTo_mono 260 [b] b (by simp)
    | step _ e ih => exact hc _ ih _ e
theorem closes_iff {l : List Wire} (hl : l.length ≤ 256) (w : Wire) : closes l w = true ↔ ∃ a b, w.outOf = some a ∧ w.inTo = some b ∧ Reach l b a := by
  unfold closes
  cases e1 : w.outOf with
  | none => simp
  | some a =>
    cases e2 : w.inTo with
    | none => simp
    | some b =>
      simp only [List.contains_iff_mem, mem_comeTo hl]
      constructor
      · exact fun h => ⟨a, b, rfl, rfl, h⟩
      · rintro ⟨_, _, h1, h2, h⟩
        cases h1; cases h2; exact h
theorem wrong_at {l : List Wire} {j : Nat} {w : Wire} (h : l[j]? = some w) : wrongAt l j = if ((l.take j).any fun (v : Wire) => v.into == w.into && v.k == w.k) = true then some 2 else if closes (l.take j) w = true then some 3 else none := by
  unfold wrongAt
  rw [h]
theorem findSome_range {α : Type} (f : Nat → Option α) : ∀ (n i : Nat) (x : α), i < n → f i = some x → (∀ j, j < i → f j = none) → (List.range n).findSome? f = some x
  | 0, i, x, h, _, _ => by omega
  | n + 1, i, x, h, hx, hn => by
    rw [List.range_succ, List.findSome?_append]
    by_cases e : i = n
    · subst e
      rw [List.findSome?_eq_none_iff.mpr (fun j hj => hn j (by simpa using hj))]
      simp [hx]
    · rw [findSome_range f n i x (by omega) hx hn]
      rfl
theorem faultIn_some {l : List Wire} {i x : Nat} (hi : i < l.length) (hx : wrongAt l i = some x) (hn : ∀ j, j < i → wrongAt l j = none) : faultIn_ l = some (i, x) := by
  unfold faultIn_
  refine findSome_range _ _ i _ hi ?_ fun j hj => ?_
  · rw [hx]; rfl
  · rw [hn j hj]; rfl
theorem faultIn_none {l : List Wire} (hn : ∀ j, j < l.length → wrongAt l j = none) : faultIn_ l = none := by
  unfold faultIn_
  refine List.findSome?_eq_none_iff.mpr fun j hj => ?_
  rw [hn j (by simpa using hj)]; rfl
/-! ### The panel of a text -/
def wiresOf (b : Bytes) : List Wire := (pieces b).map wireAt
/-- what the program refuses; nothing: the empty list -/
def refusal (b : Bytes) : List Int := match Panels.panelOf b with
  | .error a => a.num :: a.more
  | .ok _ => []
theorem refusal_long {b : Bytes} (h : 16384 < b.length) : refusal b = [-1] := by
  unfold refusal Panels.panelOf
  rw [if_pos (show TEXTMOST < b.length from h)]
  rfl
theorem panel_line {b : Bytes} (h : ¬ 16384 < b.length) {i k : Nat} (hf : textFault wireForms WIRES b = some (i, k)) : refusal b = [-6, if 256 ≤ i then 2 else 1, (i : Int), (k : Int)] := by
  unfold refusal Panels.panelOf
  rw [if_neg (show ¬ TEXTMOST < b.length from h)]
  unfold readPanel
  rw [hf]
  simp only [Panels.nums, Panels.ints, List.map_cons, List.map_nil]
  have : (((if WIRES ≤ i then 2 else 1 : Nat)) : Int) = if 256 ≤ i then 2 else 1 := by
    have e : WIRES = 256 := rfl
    rw [e]
    split <;> rfl
  rw [this]
theorem wires_eq {b : Bytes} (hb : ∀ j y, (pieces b)[j]? = some y → j < 256 ∧ (full y).2.2 = true) : (pieces b).map wireOf = wiresOf b := by
  unfold wiresOf
  refine List.map_congr_left fun p hp => ?_
  obtain ⟨j, hj, e⟩ := List.getElem_of_mem hp
  have h1 : (pieces b)[j]? = some p := by rw [List.getElem?_eq_getElem hj, e]
  exact (line_wire (pieces_lined b p hp) (hb j p h1).2).1
theorem wires_ok {b : Bytes} (hb : ∀ j y, (pieces b)[j]? = some y → j < 256 ∧ (full y).2.2 = true) : ∀ w ∈ wiresOf b, w.ok = true := by
  intro w hw
  obtain ⟨p, hp, rfl⟩ := List.mem_map.mp hw
  obtain ⟨j, hj, e⟩ := List.getElem_of_mem hp
  have h1 : (pieces b)[j]? = some p := by rw [List.getElem?_eq_getElem hj, e]
  exact (line_wire (pieces_lined b p hp) (hb j p h1).2).2
theorem wires_len {b : Bytes} (hb : ∀ j y, (pieces b)[j]? = some y → j < 256 ∧ (full y).2.2 = true) : (wiresOf b).length ≤ 256 := by
  unfold wiresOf
  rw [List.length_map]
  by_cases h : (pieces b).length ≤ 256
  · exact h
  · have := (hb 256 _ (List.getElem?_eq_getElem (by omega))).1
    omega
theorem panel_wires {b : Bytes} (h : ¬ 16384 < b.length) (hb : ∀ j y, (pieces b)[j]? = some y → j < 256 ∧ (full y).2.2 = true) :
    Panels.panelOf b = match faultIn_ (wiresOf b) with | some (j, w) => .error (Panels.nums (-6) (Panels.ints [w + 1, j, 0])) | none => .ok (wiresOf b) := by
  unfold Panels.panelOf
  rw [if_neg (show ¬ TEXTMOST < b.length from h)]
  unfold readPanel
  rw [fault_none hb]
  simp only [wires_eq hb]
  cases faultIn_ (wiresOf b) with
  | none => rfl
  | some p => rfl
theorem refusal_wire {b : Bytes} (h : ¬ 16384 < b.length) (hb : ∀ j y, (pieces b)[j]? = some y → j < 256 ∧ (full y).2.2 = true) {j x : Nat} (hf : faultIn_ (wiresOf b) = some (j, x)) : refusal b = [-6, (x : Int) + 1, (j : Int), 0] := by
  unfold refusal
  rw [panel_wires h hb, hf]
  rfl
theorem refusal_none {b : Bytes} (h : ¬ 16384 < b.length) (hb : ∀ j y, (pieces b)[j]? = some y → j < 256 ∧ (full y).2.2 = true) (hf : faultIn_ (wiresOf b) = none) : refusal b = [] ∧ Panels.panelOf b = .ok (wiresOf b) := by
  unfold refusal
  rw [panel_wires h hb, hf]
  exact ⟨rfl, rfl⟩
/-- bytes as whole numbers -/
def ib (b : Bytes) : List Int := b.map fun c => (c.toNat : Int)
theorem ib_text {ns : List Int} (h : ∀ x ∈ ns, 0 ≤ x ∧ x ≤ 255) : ib (PanelsNeutral.text ns) = ns := by
  unfold ib PanelsNeutral.text
  rw [List.map_map]
  conv => rhs; rw [← List.map_id ns]
  refine List.map_congr_left fun x hx => ?_
  have := h x hx
  show ((UInt8.ofNat x.toNat).toNat : Int) = x
  rw [UInt8.toNat_ofNat']
  omega
theorem text_len (ns : List Int) : (PanelsNeutral.text ns).length = ns.length := by
  unfold PanelsNeutral.text
  rw [List.length_map]
end Jm
end

section
set_option Elab.async false
set_option maxRecDepth 100000
set_option linter.all false
namespace Jm
open Pu
/-! ### A sound panel has no round -/
def Acyc (l : List Wire) : Prop := ∀ a b, Edge l a b → ¬ Reach l b a
theorem Reach.trans {l : List Wire} {a b c : Box} (h1 : Reach l a b) (h2 : Reach l b c) : Reach l a c := by
  induction h2 with
  | refl => exact h1
  | step _ e ih => exact .step ih e
theorem edge_snoc {l : List Wire} {w : Wire} {x y : Box} (e : Edge (l ++ [w]) x y) : Edge l x y ∨ (w.outOf = some x ∧ w.inTo = some y) := by
  obtain ⟨v, hv, h1, h2⟩ := e
  rcases List.mem_append.mp hv with q | q
  · exact .inl ⟨v, q, h1, h2⟩
  · rw [List.mem_singleton.mp q] at h1 h2
    exact .inr ⟨h1, h2⟩
theorem reach_snoc {l : List Wire} {w : Wire} {x y : Box} (r : Reach (l ++ [w]) x y) : Reach l x y ∨ ∃ a b, w.outOf = some a ∧ w.inTo = some b ∧ Reach l x a ∧ Reach l b y := by
  induction r with
  | refl => exact .inl .refl
  | step _ e ih =>
    rcases edge_snoc e with q | ⟨h1, h2⟩
    · rcases ih with p | ⟨a, b, e1, e2, p1, p2⟩
      · exact .inl (.step p q)
      · exact .inr ⟨a, b, e1, e2, p1, .step p2 q⟩
    · rcases ih with p | ⟨a, b, e1, e2, p1, p2⟩
      · exact .inr ⟨_, _, h1, h2, p, .refl⟩
      · exact .inr ⟨a, _, e1, h2, p1, .refl⟩
theorem acyc_snoc {l : List Wire} {w : Wire} (h : Acyc l) (hw : ∀ a b, w.outOf = some a → w.inTo = some b → ¬ Reach l b a) : Acyc (l ++ [w]) := by
  intro x y e r
  rcases edge_snoc e with q | ⟨h1, h2⟩
  · rcases reach_snoc r with p | ⟨a, b, e1, e2, p1, p2⟩
    · exact h x y q p
    · exact hw a b e1 e2 ((p2.trans (.step .refl q)).trans p1)
  · rcases reach_snoc r with p | ⟨a, b, e1, e2, p1, p2⟩
    · exact hw x y h1 h2 p
    · rw [h1] at e1; rw [h2] at e2
      cases e1; cases e2
      exact hw x y h1 h2 p1
theorem take_snoc' {α : Type} {l : List α} {i : Nat} {x : α} (h : l[i]? = some x) : l.take (i + 1) = l.take i ++ [x] := by
  obtain ⟨h1, h2⟩ := List.getElem?_eq_some_iff.mp h
  rw [← h2]; simp
/-- one wire a hub -/
def OneWire (l : List Wire) : Prop := ∀ (i j : Nat) (v w : Wire), l[i]? = some v → l[j]? = some w → v.into = w.into → v.k = w.k → i = j
theorem fault_free {l : List Wire} (hf : faultIn_ l = none) {j : Nat} (hj : j < l.length) : wrongAt l j = none := by
  unfold faultIn_ at hf
  have := List.findSome?_eq_none_iff.mp hf j (by simpa using hj)
  simpa using this
theorem sound_acyc {l : List Wire} (hl : l.length ≤ 256) (hf : faultIn_ l = none) : ∀ i, i ≤ l.length → Acyc (l.take i)
  | 0, _ => by intro a b e; obtain ⟨w, hw, _⟩ := e; simp at hw
  | i + 1, hi => by
    have ih := sound_acyc hl hf i (by omega)
    obtain ⟨w, hw⟩ : ∃ w, l[i]? = some w := ⟨_, List.getElem?_eq_getElem (by omega)⟩
    rw [take_snoc' hw]
    refine acyc_snoc ih fun a b h1 h2 r => ?_
    have hn := fault_free hf (j := i) (by omega)
    rw [wrong_at hw] at hn
    split at hn
    · cases hn
    · split at hn
      · cases hn
      · rename_i hc
        exact hc ((closes_iff (by rw [List.length_take]; omega) w).mpr ⟨a, b, h1, h2, r⟩)
theorem sound_one {l : List Wire} (hf : faultIn_ l = none) : OneWire l := by
  have key : ∀ (i j : Nat) (v w : Wire), i < j → l[i]? = some v → l[j]? = some w → v.into = w.into → v.k = w.k → False := by
    intro i j v w hij hv hw h1 h2
    have hj := (List.getElem?_eq_some_iff.mp hw).1
    have hn := fault_free hf hj
    rw [wrong_at hw] at hn
    split at hn
    · cases hn
    · rename_i hc
      apply hc
      rw [List.any_eq_true]
      refine ⟨v, ?_, by simp [h1, h2]⟩
      have : (l.take j)[i]? = some v := by rw [List.getElem?_take, if_pos hij]; exact hv
      exact List.mem_of_getElem? this
  intro i j v w hv hw h1 h2
  by_cases h : i < j
  · exact (key i j v w h hv hw h1 h2).elim
  · by_cases h' : j < i
    · exact (key j i w v h' hw hv h1.symm h2.symm).elim
    · omega
/-! ### How deep a box lies -/
/-- boxes in a row that send to each other, the last ahead -/
inductive Path (l : List Wire) : List Box → Prop
  | one (b : Box) : Path l [b]
  | cons {a b : Box} {r : List Box} : Path l (a :: r) → Edge l a b → Path l (b :: a :: r)
theorem Path.reach {l : List Wire} : ∀ {r : List Box} {b : Box}, Path l (b :: r) → ∀ x ∈ b :: r, Reach l x b
  | _, _, .one b, x, hx => by rw [List.mem_singleton.mp hx]; exact .refl
  | _, _, .cons p e, x, hx => by
    rcases List.mem_cons.mp hx with q | q
    · rw [q]; exact .refl
    · exact .step (p.reach x q) e
theorem Path.nodup {l : List Wire} (h : Acyc l) : ∀ {r : List Box}, Path l r → r.Nodup
  | _, .one b => by simp
  | _, .cons p e => by
    refine List.nodup_cons.mpr ⟨fun hm => ?_, p.nodup h⟩
    exact h _ _ e (p.reach _ hm)
theorem Path.len {l : List Wire} (h : Acyc l) {r : List Box} (p : Path l r) : r.length ≤ l.length + 1 := by
  have sub : ∀ {r : List Box}, Path l r → ∃ (b : Box), ∀ x ∈ r, x ∈ b :: l.filterMap Wire.inTo := by
    intro r p
    induction p with
    | one b => exact ⟨b, fun x hx => by rw [List.mem_singleton.mp hx]; simp⟩
    | cons p e ih =>
      obtain ⟨b0, hb⟩ := ih
      refine ⟨b0, fun x hx => ?_⟩
      rcases List.mem_cons.mp hx with q | q
      · obtain ⟨w, hw, _, h2⟩ := e
        rw [q]
        exact List.mem_cons_of_mem _ (List.mem_filterMap.mpr ⟨w, hw, h2⟩)
      · exact hb x q
  obtain ⟨b, hb⟩ := sub p
  have h1 := nodup_len r _ (p.nodup h) hb
  have h2 := List.length_filterMap_le Wire.inTo l
  simp at h1
  omega
/-- no more than n boxes in a row end at b -/
def Low (l : List Wire) (n : Nat) (b : Box) : Prop := ∀ r, Path l (b :: r) → r.length < n
theorem low_all {l : List Wire} (h : Acyc l) (b : Box) : Low l (l.length + 1) b := fun r p => by
  have := p.len h
  simp at this; omega
theorem Low.edge {l : List Wire} {n : Nat} {a b : Box} (h : Low l (n + 1) b) (e : Edge l a b) : Low l n a := fun r p => by
  have := h _ (.cons p e)
  simp at this; omega
theorem low_zero {l : List Wire} {b : Box} : ¬ Low l 0 b := fun h => by have := h [] (.one b); simp at this
/-! ### What goes in -/
/-- the hubs that a box takes by: the box of a hub -/
def boxOf (into k : Nat) : Option Box := if into = 1 then some (1, k) else if into = 2 then some (2, k) else if 3 ≤ into ∧ into ≤ 5 then some (3, k) else if into = 6 ∨ into = 7 then some (4, k) else none
theorem inTo_eq (w : Wire) : w.inTo = boxOf w.into w.k := rfl
/-- what a wire sends hangs on the hubs of its box alone -/
theorem sent_congr {x frm : List Nat} {t u : Flow} {w : Wire} (hk : w.kind ≤ 7) (h : ∀ i k b, boxOf i k = some b → w.outOf = some b → t i k = u i k) : sent x frm t w = sent x frm u w := by
  obtain ⟨kind, n, m, into, k⟩ := w
  unfold sent
  have hk' : kind ≤ 7 := hk
  match kind, hk' with
  | 0, _ => rfl
  | 1, _ => rfl
  | 2, _ => rfl
  | 3, _ => simp only []; rw [h 1 n (1, n) rfl rfl]
  | 4, _ => simp only []; rw [h 1 n (1, n) rfl rfl]
  | 5, _ => simp only []; rw [h 2 n (2, n) rfl rfl]
  | 6, _ => simp only []; rw [h 3 n (3, n) rfl rfl, h 4 n (3, n) rfl rfl, h 5 n (3, n) rfl rfl]
  | 7, _ => simp only []; rw [h 6 n (4, n) rfl rfl, h 7 n (4, n) rfl rfl]
/-- the one way for what goes into the hubs -/
structure IsFlow (l : List Wire) (x frm : List Nat) (g : Flow) : Prop where
  wire : ∀ w ∈ l, g w.into w.k = sent x frm g w
  bare : ∀ i k, (∀ w ∈ l, ¬ (w.into = i ∧ w.k = k)) → g i k = 0
theorem box_wire {l : List Wire} (i k : Nat) : (∃ w ∈ l, w.into = i ∧ w.k = k) ∨ ∀ w ∈ l, ¬ (w.into = i ∧ w.k = k) := by
  by_cases h : ∃ w ∈ l, w.into = i ∧ w.k = k
  · exact .inl h
  · exact .inr fun w hw e => h ⟨w, hw, e⟩
/-! ### The specification's way is it -/
def at_ (w : Wire) : Nat := 256 * w.into + w.k
def putAll (f : Wire → Nat) (u : Array Nat) (l : List Wire) : Array Nat := l.foldl (fun u w => u.setIfInBounds (at_ w) (f w)) u
theorem put_none (f : Wire → Nat) : ∀ (l : List Wire) (u : Array Nat) (i : Nat), (∀ w ∈ l, at_ w ≠ i) → (putAll f u l).getD i 0 = u.getD i 0
  | [], u, i, _ => rfl
  | w :: l, u, i, h => by
    show (putAll f (u.setIfInBounds (at_ w) (f w)) l).getD i 0 = _
    rw [put_none f l _ i fun v hv => h v (List.mem_cons_of_mem _ hv)]
    have := h w List.mem_cons_self
    rw [Array.getD_eq_getD_getElem?, Array.getD_eq_getD_getElem?, Array.getElem?_setIfInBounds_ne this]
theorem put_some (f : Wire → Nat) : ∀ (l : List Wire) (u : Array Nat) (j : Nat) (w : Wire), l[j]? = some w → (∀ j' v, l[j']? = some v → at_ v = at_ w → j' = j) → at_ w < u.size → (putAll f u l).getD (at_ w) 0 = f w
  | [], u, j, w, h, _, _ => by simp at h
  | v :: l, u, 0, w, h, hone, hs => by
    have e : v = w := by simpa using h
    subst e
    show (putAll f (u.setIfInBounds (at_ v) (f v)) l).getD (at_ v) 0 = _
    rw [put_none f l _ _ fun z hz e => ?_]
    · rw [Array.getD_eq_getD_getElem?, Array.getElem?_setIfInBounds_self_of_lt hs]; rfl
    · obtain ⟨j, hj, ej⟩ := List.getElem_of_mem hz
      have := hone (j + 1) z (by simp [hj, ej]) e
      omega
  | v :: l, u, j + 1, w, h, hone, hs => by
    show (putAll f (u.setIfInBounds (at_ v) (f v)) l).getD (at_ w) 0 = _
    exact put_some f l _ j w (by simpa using h) (fun j' v' h1 h2 => by have := hone (j' + 1) v' (by simpa using h1) h2; omega) (by simpa using hs)
theorem carried_put (l : List Wire) (x frm : List Nat) (t : Array Nat) : carried l x frm t = putAll (fun w => sent x frm (flowOf t) w) noFlow l := rfl
theorem ok_bounds {w : Wire} (h : w.ok = true) : w.kind ≤ 7 ∧ w.into ≤ 7 ∧ w.k < 256 ∧ w.n < 256 := by
  have h' := h
  unfold Wire.ok at h'
  simp only [Bool.and_eq_true, decide_eq_true_iff] at h'
  obtain ⟨h1, h2, _, h3, h4⟩ := h'
  have a1 : HUBS = 256 := rfl
  have a2 : BOXES = 64 := rfl
  have a3 : COLUMNS = 80 := rfl
  refine ⟨h1, h3, ?_, ?_⟩
  · unfold takeMost at h4; split at h4 <;> omega
  · unfold sendMost at h2; split at h2
    · omega
    · split at h2 <;> omega
theorem carried_wire {l : List Wire} {x frm : List Nat} (hok : ∀ w ∈ l, w.ok = true) (h1 : OneWire l) (t : Array Nat) {w : Wire} (hw : w ∈ l) : flowOf (carried l x frm t) w.into w.k = sent x frm (flowOf t) w := by
  obtain ⟨_, b1, b2, _⟩ := ok_bounds (hok w hw)
  obtain ⟨j, hj, ej⟩ := List.getElem_of_mem hw
  have hj' : l[j]? = some w := by rw [List.getElem?_eq_getElem hj, ej]
  unfold flowOf
  rw [if_pos (show w.k < HUBS from b2), carried_put]
  have e : HUBS * w.into + w.k = at_ w := rfl
  rw [e]
  refine put_some _ l noFlow j w hj' (fun j' v hv e' => ?_) ?_
  · obtain ⟨_, c1, c2, _⟩ := ok_bounds (hok v (List.mem_of_getElem? hv))
    unfold at_ at e'
    exact h1 j' j v w hv hj' (by omega) (by omega)
  · unfold at_ noFlow
    simp; omega
theorem carried_bare {l : List Wire} {x frm : List Nat} (hok : ∀ w ∈ l, w.ok = true) (t : Array Nat) {i k : Nat} (hno : ∀ w ∈ l, ¬ (w.into = i ∧ w.k = k)) : flowOf (carried l x frm t) i k = 0 := by
  unfold flowOf
  by_cases hk : k < HUBS
  · rw [if_pos hk, carried_put, put_none _ l noFlow _ fun w hw e => ?_]
    · unfold noFlow
      rw [Array.getD_eq_getD_getElem?, Array.getElem?_replicate]
      split <;> rfl
    · obtain ⟨_, c1, c2, _⟩ := ok_bounds (hok w hw)
      have a1 : HUBS = 256 := rfl
      unfold at_ at e
      rw [a1] at e hk
      exact hno w hw ⟨by omega, by omega⟩
  · rw [if_neg hk]
/-- the turns -/
def turn (l : List Wire) (x frm : List Nat) : Nat → Array Nat
  | 0 => noFlow
  | n + 1 => carried l x frm (turn l x frm n)
theorem turn_box {l : List Wire} {x frm : List Nat} (hok : ∀ w ∈ l, w.ok = true) (h1 : OneWire l) : ∀ n b, Low l n b → ∀ i k, boxOf i k = some b → ∀ m, n ≤ m → flowOf (turn l x frm m) i k = flowOf (turn l x frm (m + 1)) i k
  | 0, b, h, _, _, _, _, _ => (low_zero h).elim
  | n + 1, b, h, i, k, hb, m, hm => by
    obtain ⟨m', rfl⟩ : ∃ m', m = m' + 1 := ⟨m - 1, by omega⟩
    rcases box_wire (l := l) i k with ⟨w, hw, e1, e2⟩ | hno
    · subst e1 e2
      show flowOf (carried l x frm (turn l x frm m')) _ _ = flowOf (carried l x frm (turn l x frm (m' + 1))) _ _
      rw [carried_wire hok h1 _ hw, carried_wire hok h1 _ hw]
      refine sent_congr (ok_bounds (hok w hw)).1 fun i' k' c hc ho => ?_
      have e : Edge l c b := ⟨w, hw, ho, by rw [inTo_eq]; exact hb⟩
      exact turn_box hok h1 n c (h.edge e) i' k' hc m' (by omega)
    · show flowOf (carried l x frm (turn l x frm m')) _ _ = flowOf (carried l x frm (turn l x frm (m' + 1))) _ _
      rw [carried_bare hok _ hno, carried_bare hok _ hno]
theorem settled_turn {l : List Wire} {x frm : List Nat} : ∀ (f m : Nat), ∃ p, settled l x frm f (turn l x frm m) = turn l x frm p ∧ (carried l x frm (turn l x frm p) = turn l x frm p ∨ p = m + f)
  | 0, m => ⟨m, rfl, .inr rfl⟩
  | f + 1, m => by
    unfold settled
    simp only []
    split
    · rename_i h
      exact ⟨m, rfl, .inl (eq_of_beq h)⟩
    · obtain ⟨p, h1, h2⟩ := settled_turn (l := l) (x := x) (frm := frm) f (m + 1)
      exact ⟨p, h1, h2.imp id fun e => by omega⟩
theorem flow_is {l : List Wire} (x frm : List Nat) (ha : Acyc l) (hok : ∀ w ∈ l, w.ok = true) (h1 : OneWire l) : IsFlow l x frm (flow l x frm) := by
  unfold flow
  obtain ⟨p, e, h⟩ := settled_turn (l := l) (x := x) (frm := frm) (l.length + 2) 0
  have e' : settled l x frm (l.length + 2) noFlow = turn l x frm p := e
  rw [e']
  rcases h with h | h
  · refine ⟨fun w hw => ?_, fun i k hno => ?_⟩
    · conv => lhs; rw [← h]
      exact carried_wire hok h1 _ hw
    · rw [← h]
      exact carried_bare hok _ hno
  · obtain ⟨q, rfl⟩ : ∃ q, p = q + 1 := ⟨p - 1, by omega⟩
    refine ⟨fun w hw => ?_, fun i k hno => carried_bare hok _ hno⟩
    show flowOf (carried l x frm (turn l x frm q)) _ _ = _
    rw [carried_wire hok h1 _ hw]
    refine sent_congr (ok_bounds (hok w hw)).1 fun i' k' c hc _ => ?_
    exact turn_box hok h1 _ c (low_all ha c) i' k' hc q (by omega)
end Jm
end

section
set_option Elab.async false
set_option maxRecDepth 100000
set_option linter.all false
namespace Jm
open Pu
/-! ### What a hub hangs on -/
abbrev Hub := Nat × Nat
end Jm
end

section
set_option Elab.async false
set_option maxRecDepth 100000
set_option linter.all false
namespace Jm
open Pu
/-! ### A text that is taken -/
def AllLines (b : Bytes) : Prop := ∀ j y, (pieces b)[j]? = some y → j < 256 ∧ (full y).2.2 = true
theorem first_bad {P : Nat → Prop} (h : ∃ i, ¬ P i) : ∃ i, ¬ P i ∧ ∀ j, j < i → P j := by
  obtain ⟨i, hi⟩ := h
  induction i using Nat.strongRecOn with
  | _ i ih =>
    by_cases q : ∃ j, j < i ∧ ¬ P j
    · obtain ⟨j, h1, h2⟩ := q
      exact ih j h1 h2
    · exact ⟨i, hi, fun j hj => Classical.byContradiction fun n => q ⟨j, hj, n⟩⟩
theorem taken_of {b : Bytes} (h : refusal b = []) : ¬ 16384 < b.length ∧ AllLines b ∧ faultIn_ (wiresOf b) = none ∧ Panels.panelOf b = .ok (wiresOf b) := by
  have hl : ¬ 16384 < b.length := fun q => by rw [refusal_long q] at h; cases h
  have ha : AllLines b := by
    refine Classical.byContradiction fun n => ?_
    obtain ⟨i, hi, hj⟩ := first_bad (P := fun j => ∀ y, (pieces b)[j]? = some y → j < 256 ∧ (full y).2.2 = true) (Classical.byContradiction fun q => n fun j y hy => Classical.byContradiction fun r => q ⟨j, fun z => r (z y hy)⟩)
    obtain ⟨y, hy, hb⟩ : ∃ y, (pieces b)[i]? = some y ∧ ¬ (i < 256 ∧ (full y).2.2 = true) := Classical.byContradiction fun q => hi fun y hy => Classical.byContradiction fun r => q ⟨y, hy, r⟩
    have hf : 256 ≤ i ∨ (full y).2.2 = false := by
      by_cases q : 256 ≤ i
      · exact .inl q
      · exact .inr (by cases e : (full y).2.2 with | false => rfl | true => exact absurd ⟨by omega, e⟩ hb)
    have := panel_line hl (fault_at hy (fun j z hj' hz => hj j hj' z hz) hf)
    rw [h] at this
    cases this
  have hf : faultIn_ (wiresOf b) = none := by
    cases e : faultIn_ (wiresOf b) with
    | none => rfl
    | some p => obtain ⟨j, x⟩ := p; rw [refusal_wire hl ha e] at h; cases h
  exact ⟨hl, ha, hf, (refusal_none hl ha hf).2⟩
theorem onPanel_ref {b : Bytes} {f : List Wire → Panels.Answer} : PanelsNeutral.told (Panels.onPanel b f) = if refusal b = [] then PanelsNeutral.told (f (wiresOf b)) else refusal b := by
  by_cases h : refusal b = []
  · rw [if_pos h]
    unfold Panels.onPanel
    rw [(taken_of h).2.2.2]
  · rw [if_neg h]
    unfold Panels.onPanel
    unfold refusal at h ⊢
    cases e : Panels.panelOf b with
    | error a => rfl
    | ok l => rw [e] at h; exact absurd rfl h
/-! ### needs -/
/-! ### What is told -/
def toldB (last : Int) : Int → List Int → Bool
  | _, [] => true
  | _, [_] => false
  | b, c :: h :: r => decide (b < c ∧ c ≤ last ∧ 0 < h ∧ h ≤ 4095) && toldB last c r
def flat : List (Nat × Nat) → List Int
  | [] => []
  | x :: r => (x.1 : Int) :: (x.2 : Int) :: flat r
def flatN : List (Nat × Nat) → List Nat
  | [] => []
  | x :: r => x.1 :: x.2 :: flatN r
def RiseOk (M : Nat) : Int → List (Nat × Nat) → Prop
  | _, [] => True
  | b, x :: r => b < (x.1 : Int) ∧ x.1 < M ∧ 1 ≤ x.2 ∧ x.2 < 4096 ∧ RiseOk M (x.1 : Int) r
theorem toldB_flat {M : Nat} : ∀ (l : List Int) (b : Int), -1 ≤ b → toldB ((M : Int) - 1) b l = true → ∃ p, l = flat p ∧ RiseOk M b p
  | [], b, _, _ => ⟨[], rfl, trivial⟩
  | [_], b, _, h => by simp [toldB] at h
  | c :: h :: r, b, hb, hh => by
    unfold toldB at hh
    rw [Bool.and_eq_true, decide_eq_true_iff] at hh
    obtain ⟨⟨h1, h2, h3, h4⟩, h5⟩ := hh
    obtain ⟨p, rfl, hp⟩ := toldB_flat r c (by omega) h5
    refine ⟨(c.toNat, h.toNat) :: p, ?_, ?_⟩
    · have e1 : ((c.toNat : Nat) : Int) = c := by omega
      have e2 : ((h.toNat : Nat) : Int) = h := by omega
      show c :: h :: flat p = ((c.toNat : Nat) : Int) :: ((h.toNat : Nat) : Int) :: flat p
      rw [e1, e2]
    · have e1 : ((c.toNat : Nat) : Int) = c := by omega
      refine ⟨by show b < ((c.toNat : Nat) : Int); omega, by show c.toNat < M; omega, by show 1 ≤ h.toNat; omega, by show h.toNat < 4096; omega, ?_⟩
      show RiseOk M ((c.toNat : Nat) : Int) p
      rw [e1]; exact hp
theorem flat_toldB {M : Nat} : ∀ (p : List (Nat × Nat)) (b : Int), RiseOk M b p → toldB ((M : Int) - 1) b (flat p) = true
  | [], b, _ => rfl
  | x :: r, b, ⟨h1, h2, h3, h4, h5⟩ => by
    unfold flat toldB
    rw [Bool.and_eq_true, decide_eq_true_iff]
    exact ⟨⟨h1, by omega, by omega, by omega⟩, flat_toldB r _ h5⟩
theorem nats_flat : ∀ p : List (Nat × Nat), Panels.nats (flat p) = some (flatN p)
  | p => by
    have h1 : ((flat p).all fun (n : Int) => decide (0 ≤ n)) = true := by
      induction p with
      | nil => rfl
      | cons x r ih => unfold flat; rw [List.all_cons, List.all_cons, ih]; simp
    have h2 : (flat p).map Int.toNat = flatN p := by
      clear h1
      induction p with
      | nil => rfl
      | cons x r ih => unfold flat flatN; rw [List.map_cons, List.map_cons, ih]; simp
    unfold Panels.nats
    rw [if_pos h1, h2]
theorem twos_flat : ∀ p : List (Nat × Nat), twos (flatN p) = some p
  | [] => rfl
  | x :: r => by unfold flatN twos; rw [twos_flat r]; rfl
theorem twos_inv : ∀ (l : List Nat) (p : List (Nat × Nat)), twos l = some p → l = flatN p
  | [], p, h => by unfold twos at h; cases h; rfl
  | [_], p, h => by unfold twos at h; cases h
  | a :: b :: l, p, h => by
    unfold twos at h
    cases e : twos l with
    | none => rw [e] at h; cases h
    | some q =>
      rw [e] at h
      cases h
      rw [twos_inv l q e]; rfl
theorem nats_inv {l : List Int} {m : List Nat} (h : Panels.nats l = some m) : l = m.map (fun (n : Nat) => (n : Int)) := by
  unfold Panels.nats at h
  split at h
  · rename_i ha
    cases h
    rw [List.map_map]
    conv => lhs; rw [← List.map_id l]
    refine List.map_congr_left fun x hx => ?_
    have := List.all_eq_true.mp ha x hx
    simp at this
    simp [this]
    omega
  · cases h
theorem flat_map : ∀ p : List (Nat × Nat), (flatN p).map (fun (n : Nat) => (n : Int)) = flat p
  | [] => rfl
  | x :: r => by unfold flatN flat; rw [List.map_cons, List.map_cons, flat_map r]
theorem rise_iff {M : Nat} : ∀ (p : List (Nat × Nat)) (b : Int), RiseOk M b p ↔ (rising (p.map Prod.fst) && p.all fun (x : Nat × Nat) => decide (x.1 < M) && (decide (1 ≤ x.2) && decide (x.2 < HOLES))) = true ∧ ∀ x ∈ p.head?, b < (x.1 : Int)
  | [], b => by simp [RiseOk, rising]
  | [x], b => by
    have : HOLES = 4096 := rfl
    simp only [RiseOk, List.map_cons, List.map_nil, rising, List.all_cons, List.all_nil, Bool.and_true, Bool.true_and, Bool.and_eq_true, decide_eq_true_iff, List.head?_cons, Option.mem_some_iff, this]
    constructor
    · rintro ⟨h1, h2, h3, h4, _⟩; exact ⟨⟨h2, h3, h4⟩, fun y hy => by rw [← hy]; exact h1⟩
    · rintro ⟨⟨h2, h3, h4⟩, h1⟩; exact ⟨h1 x rfl, h2, h3, h4, trivial⟩
  | x :: y :: r, b => by
    have ih := rise_iff (M := M) (y :: r) (x.1 : Int)
    have e : HOLES = 4096 := rfl
    unfold RiseOk
    rw [ih]
    simp only [List.map_cons, rising, List.all_cons, Bool.and_eq_true, decide_eq_true_iff, List.head?_cons, Option.mem_some_iff, e]
    constructor
    · rintro ⟨h1, h2, h3, h4, ⟨h5, h6, h7⟩, h8⟩
      have := h8 y rfl
      exact ⟨⟨⟨by omega, h5⟩, ⟨h2, h3, h4⟩, h6, h7⟩, fun z hz => by rw [← hz]; exact h1⟩
    · rintro ⟨⟨⟨h0, h5⟩, ⟨h2, h3, h4⟩, h6, h7⟩, h1⟩
      exact ⟨h1 x rfl, h2, h3, h4, ⟨h5, h6, h7⟩, fun z hz => by rw [← hz]; omega⟩
def specOf (M : Nat) (l : List Int) : Option (List Nat) := (Panels.nats l).bind fun (l : List Nat) => (twos l).bind fun (p : List (Nat × Nat)) => if (rising (p.map Prod.fst) && p.all fun (x : Nat × Nat) => decide (x.1 < M) && (decide (1 ≤ x.2) && decide (x.2 < HOLES))) = true then some (p.foldl (fun (y : List Nat) (x : Nat × Nat) => y.set x.1 x.2) (List.replicate M 0)) else none
theorem card_spec (l : List Int) : Panels.cardOf_ l = specOf 80 l := rfl
theorem send_spec (l : List Int) : Panels.sendingOf l = specOf 256 l := rfl
def setAll (M : Nat) (p : List (Nat × Nat)) : List Nat := p.foldl (fun (y : List Nat) (x : Nat × Nat) => y.set x.1 x.2) (List.replicate M 0)
theorem spec_yes {M : Nat} {p : List (Nat × Nat)} (h : RiseOk M (-1) p) : specOf M (flat p) = some (setAll M p) := by
  unfold specOf
  rw [nats_flat]
  show (twos (flatN p)).bind _ = _
  rw [twos_flat]
  show (if _ then _ else _) = _
  rw [if_pos ((rise_iff p (-1)).mp h).1]
  rfl
theorem spec_no {M : Nat} {l : List Int} (h : toldB ((M : Int) - 1) (-1) l = false) : specOf M l = none := by
  cases e : specOf M l with
  | none => rfl
  | some x =>
    exfalso
    unfold specOf at e
    cases e1 : Panels.nats l with
    | none => rw [e1] at e; cases e
    | some m =>
      rw [e1] at e
      replace e : (twos m).bind _ = some x := e
      cases e2 : twos m with
      | none => rw [e2] at e; cases e
      | some p =>
        rw [e2] at e
        replace e : (if _ then _ else _) = some x := e
        split at e
        · rename_i hc
          have hl : l = flat p := by rw [nats_inv e1, twos_inv m p e2, flat_map]
          have hr : RiseOk M (-1) p := (rise_iff p (-1)).mpr ⟨hc, fun z _ => by omega⟩
          rw [hl, flat_toldB p (-1) hr] at h
          cases h
        · cases e
/-- what is found at a number -/
def lookN (p : List (Nat × Nat)) (n : Nat) : Option Nat := (p.find? fun x => decide (x.1 = n)).map (·.2)
theorem rise_lt {M : Nat} : ∀ (p : List (Nat × Nat)) (b : Int), RiseOk M b p → ∀ x ∈ p, b < (x.1 : Int) ∧ x.1 < M ∧ 1 ≤ x.2 ∧ x.2 < 4096
  | x :: r, b, ⟨h1, h2, h3, h4, h5⟩, y, hy => by
    rcases List.mem_cons.mp hy with q | q
    · rw [q]; exact ⟨h1, h2, h3, h4⟩
    · have := rise_lt r _ h5 y q
      exact ⟨by omega, this.2⟩
theorem rise_nodup {M : Nat} : ∀ (p : List (Nat × Nat)) (b : Int), RiseOk M b p → (p.map Prod.fst).Nodup
  | [], _, _ => by simp
  | x :: r, b, ⟨_, _, _, _, h5⟩ => by
    refine List.nodup_cons.mpr ⟨fun hm => ?_, rise_nodup r _ h5⟩
    obtain ⟨y, hy, e⟩ := List.mem_map.mp hm
    have := (rise_lt r _ h5 y hy).1
    omega
theorem look_none {p : List (Nat × Nat)} {n : Nat} (h : n ∉ p.map Prod.fst) : lookN p n = none := by
  unfold lookN
  rw [List.find?_eq_none.mpr]
  · rfl
  · intro x hx e
    exact h (List.mem_map.mpr ⟨x, hx, of_decide_eq_true e⟩)
theorem set_all {n : Nat} : ∀ (p : List (Nat × Nat)) (y : List Nat), (p.map Prod.fst).Nodup → (∀ x ∈ p, x.1 < y.length) → (p.foldl (fun (y : List Nat) (x : Nat × Nat) => y.set x.1 x.2) y).getD n 0 = (lookN p n).getD (y.getD n 0)
  | [], y, _, _ => rfl
  | x :: r, y, hn, hl => by
    replace hn := List.nodup_cons.mp hn
    rw [List.foldl_cons, set_all r _ hn.2 (fun z hz => by rw [List.length_set]; exact hl z (List.mem_cons_of_mem _ hz))]
    by_cases e : x.1 = n
    · subst e
      rw [look_none hn.1]
      have : lookN (x :: r) x.1 = some x.2 := by unfold lookN; rw [List.find?_cons_of_pos (by simp)]; rfl
      rw [this]
      have hx := hl x List.mem_cons_self
      simp [List.getD, List.getElem?_set, hx]
    · have : lookN (x :: r) n = lookN r n := by unfold lookN; rw [List.find?_cons_of_neg (by simpa using e)]
      rw [this]
      have : (y.set x.1 x.2).getD n 0 = y.getD n 0 := by simp [List.getD, List.getElem?_set, e]
      rw [this]
theorem setAll_look {M : Nat} {p : List (Nat × Nat)} (h : RiseOk M (-1) p) (n : Nat) : (setAll M p).getD n 0 = (lookN p n).getD 0 := by
  unfold setAll
  rw [set_all p _ (rise_nodup p _ h) fun x hx => by rw [List.length_replicate]; exact (rise_lt p _ h x hx).2.1]
  have : (List.replicate M 0).getD n 0 = 0 := by
    rw [List.getD_eq_getElem?_getD, List.getElem?_replicate]
    split <;> rfl
  rw [this]
theorem setAll_small {M : Nat} {p : List (Nat × Nat)} (h : RiseOk M (-1) p) (n : Nat) : (setAll M p).getD n 0 < 4096 := by
  rw [setAll_look h]
  unfold lookN
  cases e : p.find? fun x => decide (x.1 = n) with
  | none => decide
  | some x => exact (rise_lt p _ h x (List.mem_of_find?_eq_some e)).2.2.2
/-! ### run and state -/
def flowB (b : Bytes) (c f : List Int) (k : Flow → List Int) : List Int := if refusal b = [] then (match specOf 80 c, specOf 256 f with
  | some x, some y => k (flow (wiresOf b) x y)
  | _, _ => [-8]) else refusal b
def stateL (i k : Int) (g : Flow) : List Int := if 0 ≤ i ∧ i ≤ 7 ∧ 0 ≤ k ∧ k.toNat < takeMost i.toNat then [(g i.toNat k.toNat : Int)] else [-4]
theorem state_of (i k : Int) (ns c f : List Int) : PyWrpunb.state i k ns c f = flowB (PanelsNeutral.text ns) c f (stateL i k) := by
  show PanelsNeutral.told (Panels.onPanel (PanelsNeutral.text ns) fun l => match Panels.cardOf_ c, Panels.sendingOf f with
    | some c, some s => (if 0 ≤ i ∧ i ≤ 7 ∧ 0 ≤ k ∧ k.toNat < takeMost i.toNat then Panels.num (flow l c s i.toNat k.toNat : Nat) else Panels.num (-4))
    | _, _ => Panels.NOCARD) = _
  rw [onPanel_ref, card_spec, send_spec]
  unfold flowB
  by_cases h : refusal (PanelsNeutral.text ns) = []
  · rw [if_pos h, if_pos h]
    cases specOf 80 c with
    | none => rfl
    | some x => cases specOf 256 f with
      | none => rfl
      | some y =>
        show PanelsNeutral.told (if _ then _ else _) = stateL i k _
        unfold stateL
        split <;> rfl
  · rw [if_neg h, if_neg h]
end Jm
end

section
set_option Elab.async false
set_option maxRecDepth 100000
set_option linter.all false
namespace Jm
open Pu
/-! ### Hubs behind hubs -/
def Wired (l : List Wire) (h : Hub) : Prop := ∃ w ∈ l, (w.into, w.k) = h
def behind (w : Wire) : List Hub := match w.outOf with
  | some b => hubsOf b
  | none => []
theorem mem_behind {w : Wire} {g : Hub} : g ∈ behind w ↔ ∃ b, w.outOf = some b ∧ g ∈ hubsOf b := by
  unfold behind
  cases w.outOf with
  | none => exact ⟨fun h => (by cases h), fun ⟨b, e, _⟩ => (by cases e)⟩
  | some b => exact ⟨fun h => ⟨b, rfl, h⟩, fun ⟨c, e, h⟩ => by cases e; exact h⟩
theorem behind_len (w : Wire) : (behind w).length ≤ 3 := by
  unfold behind
  cases w.outOf with
  | none => simp
  | some b =>
    obtain ⟨a, k⟩ := b
    match a with
    | 0 => simp [hubsOf]
    | 1 => simp [hubsOf]
    | 2 => simp [hubsOf]
    | 3 => simp [hubsOf]
    | 4 => simp [hubsOf]
    | a + 5 => simp [hubsOf]
theorem hub_box {b : Box} {g : Hub} (h : g ∈ hubsOf b) : boxOf g.1 g.2 = some b := by
  obtain ⟨a, k⟩ := b
  match a, h with
  | 0, h => simp [hubsOf] at h
  | 1, h => simp [hubsOf] at h; rw [h]; rfl
  | 2, h => simp [hubsOf] at h; rw [h]; rfl
  | 3, h =>
    simp [hubsOf] at h
    rcases h with q | q | q <;> rw [q] <;> rfl
  | 4, h =>
    simp [hubsOf] at h
    rcases h with q | q <;> rw [q] <;> rfl
  | a + 5, h => simp [hubsOf] at h
/-! ### How far a hub is from the senders -/
theorem filter_lt {α : Type} (p q : α → Bool) : ∀ U : List α, (∀ x ∈ U, p x = true → q x = true) → (∃ x ∈ U, q x = true ∧ p x = false) → (U.filter p).length < (U.filter q).length
  | [], _, ⟨x, hx, _⟩ => by cases hx
  | a :: U, h, ⟨x, hx, h1, h2⟩ => by
    have hle : (U.filter p).length ≤ (U.filter q).length := by
      have hs : ∀ x ∈ U, p x = true → q x = true := fun x hx => h x (List.mem_cons_of_mem _ hx)
      clear h hx
      induction U with
      | nil => simp
      | cons b U ih =>
        have := ih fun x hx => hs x (List.mem_cons_of_mem _ hx)
        by_cases e : p b = true
        · rw [List.filter_cons_of_pos e, List.filter_cons_of_pos (hs b List.mem_cons_self e)]; simp; exact this
        · rw [List.filter_cons_of_neg e]
          by_cases e2 : q b = true
          · rw [List.filter_cons_of_pos e2]; simp; omega
          · rw [List.filter_cons_of_neg e2]; exact this
    by_cases e : a = x
    · subst e
      rw [List.filter_cons_of_neg (by rw [h2]; simp), List.filter_cons_of_pos h1]
      simp; omega
    · have hx' : x ∈ U := by
        rcases List.mem_cons.mp hx with z | z
        · exact absurd z.symm e
        · exact z
      have ih := filter_lt p q U (fun x hx => h x (List.mem_cons_of_mem _ hx)) ⟨x, hx', h1, h2⟩
      by_cases ep : p a = true
      · rw [List.filter_cons_of_pos ep, List.filter_cons_of_pos (h a List.mem_cons_self ep)]; simp; exact ih
      · rw [List.filter_cons_of_neg ep]
        by_cases eq : q a = true
        · rw [List.filter_cons_of_pos eq]; simp; omega
        · rw [List.filter_cons_of_neg eq]; exact ih
open Classical in
noncomputable def rk (l : List Wire) (b : Box) : Nat := ((l.filterMap Wire.inTo).filter fun x => decide (Reach l x b)).length
theorem rk_le (l : List Wire) (b : Box) : rk l b ≤ l.length := by
  unfold rk
  exact Nat.le_trans (List.length_filter_le ..) (List.length_filterMap_le ..)
open Classical in
theorem rk_lt {l : List Wire} (ha : Acyc l) {a b : Box} (e : Edge l a b) : rk l a < rk l b := by
  unfold rk
  refine filter_lt _ _ _ (fun x _ hx => ?_) ?_
  · have := of_decide_eq_true hx
    exact decide_eq_true (.step this e)
  · obtain ⟨w, hw, h1, h2⟩ := id e
    exact ⟨b, List.mem_filterMap.mpr ⟨w, hw, h2⟩, decide_eq_true .refl, decide_eq_false (ha a b e)⟩
noncomputable def hrk (l : List Wire) (h : Hub) : Nat := match boxOf h.1 h.2 with
  | some b => rk l b
  | none => l.length + 1
theorem hrk_le (l : List Wire) (h : Hub) : hrk l h ≤ l.length + 1 := by
  unfold hrk
  split
  · exact Nat.le_succ_of_le (rk_le l _)
  · exact Nat.le_refl _
theorem hrk_lt {l : List Wire} (ha : Acyc l) {w : Wire} (hw : w ∈ l) {g : Hub} (hg : g ∈ behind w) : hrk l g < hrk l (w.into, w.k) := by
  obtain ⟨b, hb, hg⟩ := mem_behind.mp hg
  have e1 : hrk l g = rk l b := by unfold hrk; rw [hub_box hg]
  rw [e1]
  unfold hrk
  cases e : boxOf w.into w.k with
  | none => exact Nat.lt_succ_of_le (rk_le l b)
  | some c => exact rk_lt ha ⟨w, hw, hb, by rw [inTo_eq]; exact e⟩
/-! ### The hubs that wait: the top first, each with a word whether those behind it wait above it -/
def wt (r : Hub → Nat) (x : Hub × Bool) : Nat := if x.2 = true then 1 else 5 ^ (r x.1 + 1)
def wsum (r : Hub → Nat) : List (Hub × Bool) → Nat
  | [] => 0
  | x :: gs => wt r x + wsum r gs
def Good (l : List Wire) (r : Hub → Nat) (R : Nat) (fl : Hub → Prop) : List Hub → List (Hub × Bool) → Prop
  | _, [] => True
  | ab, x :: gs => Wired l x.1 ∧ (x.2 = true → ∀ w ∈ l, (w.into, w.k) = x.1 → ∀ g ∈ behind w, Wired l g → fl g ∨ g ∈ ab) ∧ gs.length + 1 + 3 * r x.1 ≤ R ∧ Good l r R fl (x.1 :: ab) gs
theorem Good.mono {l : List Wire} {r : Hub → Nat} {R : Nat} {fl fl' : Hub → Prop} : ∀ {gs : List (Hub × Bool)} {ab ab' : List Hub}, Good l r R fl ab gs → (∀ g, fl g ∨ g ∈ ab → fl' g ∨ g ∈ ab') → Good l r R fl' ab' gs
  | [], _, _, _, _ => trivial
  | x :: gs, ab, ab', ⟨h1, h2, h3, h4⟩, m => by
    refine ⟨h1, fun e w hw e2 g hg hg2 => m g (h2 e w hw e2 g hg hg2), h3, h4.mono fun g q => ?_⟩
    rcases q with q | q
    · exact (m g (.inl q)).imp id (List.mem_cons_of_mem _)
    · rcases List.mem_cons.mp q with q | q
      · exact .inr (by rw [q]; exact List.mem_cons_self)
      · exact (m g (.inr q)).imp id (List.mem_cons_of_mem _)
theorem Good.pop {l : List Wire} {r : Hub → Nat} {R : Nat} {fl fl' : Hub → Prop} {x : Hub × Bool} {gs : List (Hub × Bool)} (h : Good l r R fl [] (x :: gs)) (m : ∀ g, fl g → fl' g) (hx : fl' x.1) : Good l r R fl' [] gs :=
  h.2.2.2.mono fun g q => .inl (q.elim (m g) fun q => by rw [List.mem_singleton.mp q]; exact hx)
theorem wt_pos (r : Hub → Nat) (x : Hub × Bool) : 1 ≤ wt r x := by
  unfold wt
  split
  · exact Nat.le_refl _
  · exact Nat.one_le_pow _ _ (by decide)
theorem wsum_pop (r : Hub → Nat) (x : Hub × Bool) (gs : List (Hub × Bool)) : wsum r gs < wsum r (x :: gs) := by
  have := wt_pos r x
  show _ < wt r x + wsum r gs
  omega
theorem wsum_app (r : Hub → Nat) : ∀ (a b : List (Hub × Bool)), wsum r (a ++ b) = wsum r a + wsum r b
  | [], b => by simp [wsum]
  | x :: a, b => by
    show wt r x + wsum r (a ++ b) = wt r x + wsum r a + wsum r b
    rw [wsum_app r a b]; omega
theorem wsum_new (r : Hub → Nat) (n : Nat) : ∀ (aw : List Hub), (∀ g ∈ aw, r g < n) → wsum r (aw.map fun g => (g, false)) ≤ aw.length * 5 ^ n
  | [], _ => by simp [wsum]
  | g :: aw, h => by
    have ih := wsum_new r n aw fun x hx => h x (List.mem_cons_of_mem _ hx)
    have h1 : wt r (g, false) ≤ 5 ^ n := by
      show (if false = true then 1 else 5 ^ (r g + 1)) ≤ 5 ^ n
      rw [if_neg (by simp)]
      exact Nat.pow_le_pow_right (by decide) (h g List.mem_cons_self)
    show wt r (g, false) + wsum r (aw.map fun g => (g, false)) ≤ (aw.length + 1) * 5 ^ n
    rw [Nat.add_mul]
    omega
theorem Good.push {l : List Wire} {r : Hub → Nat} {R : Nat} {fl : Hub → Prop} {h : Hub} {e : Bool} {gs : List (Hub × Bool)} {aw : List Hub} (hG : Good l r R fl [] ((h, e) :: gs)) (hne : aw ≠ []) (hl : aw.length ≤ 3)
    (hr : ∀ g ∈ aw, r g < r h) (hw : ∀ g ∈ aw, Wired l g ∧ ¬ fl g) (hall : ∀ w ∈ l, (w.into, w.k) = h → ∀ g ∈ behind w, Wired l g → fl g ∨ g ∈ aw) (hex : ∃ w ∈ l, (w.into, w.k) = h ∧ ∀ g ∈ aw, g ∈ behind w) :
    Good l r R fl [] ((aw.reverse.map fun g => (g, false)) ++ (h, true) :: gs) ∧ wsum r ((aw.reverse.map fun g => (g, false)) ++ (h, true) :: gs) < wsum r ((h, e) :: gs) := by
  obtain ⟨h1, h2, h3, h4⟩ := hG
  have he : e = false := by
    cases q : e with
    | false => rfl
    | true =>
      exfalso
      obtain ⟨g, hg⟩ : ∃ g, g ∈ aw := by
        cases z : aw with
        | nil => exact absurd z hne
        | cons a b => exact ⟨a, List.mem_cons_self⟩
      obtain ⟨w, hw1, hw2, hw3⟩ := hex
      have := h2 (by show e = true; exact q) w hw1 hw2 g (hw3 g hg) (hw g hg).1
      rcases this with z | z
      · exact (hw g hg).2 z
      · cases z
  constructor
  · have key : ∀ (bs ab : List Hub), (∀ g ∈ bs, g ∈ aw) → (∀ g ∈ aw, g ∈ bs ∨ g ∈ ab) → bs.length + gs.length + 1 ≤ gs.length + 4 → Good l r R fl ab ((bs.map fun g => (g, false)) ++ (h, true) :: gs) := by
      intro bs
      induction bs with
      | nil =>
        intro ab _ hab _
        refine ⟨h1, fun _ w hw1 hw2 g hg hg2 => (hall w hw1 hw2 g hg hg2).imp id fun z => (hab g z).elim (fun q => by cases q) id, h3, ?_⟩
        exact h4.mono fun g q => q.imp id fun q => by
          rw [List.mem_singleton.mp q]; exact List.mem_cons_self
      | cons b bs ih =>
        intro ab hs hab hlen
        simp at hlen
        have hb := hs b List.mem_cons_self
        refine ⟨(hw b hb).1, fun z => (by cases z), ?_, ?_⟩
        · have := hr b hb
          have h3' : gs.length + 1 + 3 * r h ≤ R := h3
          show ((bs.map fun g => (g, false)) ++ (h, true) :: gs).length + 1 + 3 * r b ≤ R
          simp
          omega
        · refine ih (b :: ab) (fun g hg => hs g (List.mem_cons_of_mem _ hg)) (fun g hg => ?_) (by omega)
          rcases hab g hg with q | q
          · rcases List.mem_cons.mp q with q | q
            · exact .inr (by rw [q]; exact List.mem_cons_self)
            · exact .inl q
          · exact .inr (List.mem_cons_of_mem _ q)
    exact key aw.reverse [] (fun g hg => List.mem_reverse.mp hg) (fun g hg => .inl (List.mem_reverse.mpr hg)) (by rw [List.length_reverse]; omega)
  · rw [wsum_app]
    have hn := wsum_new r (r h) aw.reverse fun g hg => hr g (List.mem_reverse.mp hg)
    rw [List.length_reverse] at hn
    subst he
    have e1 : wsum r ((h, true) :: gs) = 1 + wsum r gs := rfl
    have e2 : wsum r ((h, false) :: gs) = 5 ^ (r h + 1) + wsum r gs := rfl
    rw [e1, e2, Nat.pow_succ]
    have hp : 1 ≤ 5 ^ r h := Nat.one_le_pow _ _ (by decide)
    have : aw.length * 5 ^ r h ≤ 3 * 5 ^ r h := Nat.mul_le_mul_right _ hl
    omega
/-! ### What goes in is below 4,096 -/
theorem code_small : ∀ n, n < 64 → code n < 4096 := by decide +kernel
theorem sent_small {x frm : List Nat} {t : Flow} {w : Wire} (hok : w.ok = true) (hx : ∀ n, x.getD n 0 < 4096) (hf : ∀ n, frm.getD n 0 < 4096) (ht : ∀ i k b, boxOf i k = some b → w.outOf = some b → t i k < 4096) : sent x frm t w < 4096 := by
  obtain ⟨kind, n, m, into, k⟩ := w
  unfold Wire.ok at hok
  simp only [Bool.and_eq_true, decide_eq_true_iff] at hok
  obtain ⟨h1, h2, h3, _⟩ := hok
  have a2 : BOXES = 64 := rfl
  have a4 : ROWS = 12 := rfl
  unfold sent
  match kind, h1 with
  | 0, _ => exact hx n
  | 1, _ => exact code_small n h2
  | 2, _ => exact hf n
  | 3, _ => show t 1 n % 4 < 4096; omega
  | 4, _ => have := ht 1 n (1, n) rfl rfl; show t 1 n / 4 * 4 < 4096; omega
  | 5, _ =>
    show (if (t 2 n).testBit m = true then 2 ^ m else 0) < 4096
    split
    · have hm : m < 12 := by simpa [a4] using h3
      exact Nat.lt_of_le_of_lt (Nat.pow_le_pow_right (by decide) (show m ≤ 11 by omega)) (by decide)
    · decide
  | 6, _ =>
    show (if t 3 n ≠ 0 then t 5 n else t 4 n) < 4096
    split
    · exact ht 5 n (3, n) rfl rfl
    · exact ht 4 n (3, n) rfl rfl
  | 7, _ => exact Nat.or_lt_two_pow (n := 12) (ht 6 n (4, n) rfl rfl) (ht 7 n (4, n) rfl rfl)
theorem small_box {l : List Wire} {x frm : List Nat} {g : Flow} (hok : ∀ w ∈ l, w.ok = true) (hg : IsFlow l x frm g) (hx : ∀ n, x.getD n 0 < 4096) (hf : ∀ n, frm.getD n 0 < 4096) : ∀ n b, Low l n b → ∀ i k, boxOf i k = some b → g i k < 4096
  | 0, b, h, _, _, _ => (low_zero h).elim
  | n + 1, b, h, i, k, hb => by
    rcases box_wire (l := l) i k with ⟨w, hw, e1, e2⟩ | hno
    · rw [← e1, ← e2, hg.wire w hw]
      refine sent_small (hok w hw) hx hf fun i' k' c hc ho => ?_
      have e : Edge l c b := ⟨w, hw, ho, by rw [inTo_eq, e1, e2]; exact hb⟩
      exact small_box hok hg hx hf n c (h.edge e) i' k' hc
    · rw [hg.bare i k hno]; decide
theorem flow_small {l : List Wire} {x frm : List Nat} {g : Flow} (ha : Acyc l) (hok : ∀ w ∈ l, w.ok = true) (hg : IsFlow l x frm g) (hx : ∀ n, x.getD n 0 < 4096) (hf : ∀ n, frm.getD n 0 < 4096) (i k : Nat) : g i k < 4096 := by
  rcases box_wire (l := l) i k with ⟨w, hw, e1, e2⟩ | hno
  · rw [← e1, ← e2, hg.wire w hw]
    exact sent_small (hok w hw) hx hf fun i' k' c hc _ => small_box hok hg hx hf _ c (low_all ha c) i' k' hc
  · rw [hg.bare i k hno]; decide
theorem sound_flow {l : List Wire} (hl : l.length ≤ 256) (hf : faultIn_ l = none) (hok : ∀ w ∈ l, w.ok = true) (x frm : List Nat) : Acyc l ∧ OneWire l ∧ IsFlow l x frm (flow l x frm) := by
  have ha : Acyc l := by have := sound_acyc hl hf l.length (Nat.le_refl _); rwa [List.take_length] at this
  exact ⟨ha, sound_one hf, flow_is x frm ha hok (sound_one hf)⟩
/-- a wire's value by any flow that agrees upon the hubs behind it -/
theorem sent_behind {x frm : List Nat} {t u : Flow} {w : Wire} (hk : w.kind ≤ 7) (h : ∀ g ∈ behind w, t g.1 g.2 = u g.1 g.2) : sent x frm t w = sent x frm u w := by
  refine sent_congr hk fun i k b hb ho => ?_
  have : (i, k) ∈ behind w := by
    refine mem_behind.mpr ⟨b, ho, ?_⟩
    unfold boxOf at hb
    split at hb
    · cases hb; rename_i z; rw [z]; exact List.mem_singleton.mpr rfl
    · split at hb
      · cases hb; rename_i z; rw [z]; exact List.mem_singleton.mpr rfl
      · split at hb
        · cases hb
          rename_i z
          have : i = 3 ∨ i = 4 ∨ i = 5 := by omega
          rcases this with z | z | z <;> rw [z] <;> simp [hubsOf]
        · split at hb
          · cases hb
            rename_i z
            rcases z with z | z <;> rw [z] <;> simp [hubsOf]
          · cases hb
  exact h (i, k) this
/-- one wire a hub, by membership -/
theorem one_mem {l : List Wire} (h : OneWire l) {v w : Wire} (hv : v ∈ l) (hw : w ∈ l) (e : (v.into, v.k) = (w.into, w.k)) : v = w := by
  obtain ⟨i, hi, ei⟩ := List.getElem_of_mem hv
  obtain ⟨j, hj, ej⟩ := List.getElem_of_mem hw
  have e1 : l[i]? = some v := by rw [List.getElem?_eq_getElem hi, ei]
  have e2 : l[j]? = some w := by rw [List.getElem?_eq_getElem hj, ej]
  injection e with h1 h2
  have := h i j v w e1 e2 h1 h2
  subst this
  rw [e1] at e2
  cases e2
  rfl
/-! ### Bits -/
theorem and_three (t : Nat) : t &&& 3 = t % 4 := Nat.and_two_pow_sub_one_eq_mod t 2
theorem bit4092 : ∀ i, i < 12 → (4092 : Nat).testBit i = decide (2 ≤ i) := by decide +kernel
theorem and_lower (t : Nat) (h : t < 4096) : t &&& 4092 = t / 4 * 4 := by
  refine Nat.eq_of_testBit_eq fun i => ?_
  rw [Nat.testBit_and, show t / 4 * 4 = t / 2 ^ 2 * 2 ^ 2 from rfl, Nat.testBit_mul_two_pow, Nat.testBit_div_two_pow]
  by_cases hi : i < 12
  · rw [bit4092 i hi]
    by_cases h2 : 2 ≤ i
    · rw [show i - 2 + 2 = i by omega, Bool.and_comm]
    · rw [decide_eq_false h2]; simp
  · have h0 : t.testBit i = false := Nat.testBit_lt_two_pow (Nat.lt_of_lt_of_le h (Nat.pow_le_pow_right (n := 2) (by decide) (show 12 ≤ i by omega)))
    rw [h0, show i - 2 + 2 = i by omega, h0]; simp
theorem and_hole (t m : Nat) : t &&& 2 ^ m = if t.testBit m = true then 2 ^ m else 0 := by
  refine Nat.eq_of_testBit_eq fun i => ?_
  rw [Nat.testBit_and, Nat.testBit_two_pow]
  by_cases e : m = i
  · subst e
    rw [decide_eq_true rfl]
    cases q : t.testBit m with
    | true => rw [if_pos rfl, Nat.testBit_two_pow]; simp
    | false => rw [if_neg (by simp)]; simp
  · rw [decide_eq_false e]
    split
    · rw [Nat.testBit_two_pow, decide_eq_false e]; simp
    · simp
end Jm
end

section
set_option Elab.async false
set_option linter.all false
set_option maxRecDepth 100000
set_option maxHeartbeats 2000000
/-! ### zip of a list and a text: first one step of zip over any two iterators, told by what each of them does when asked once -/
namespace Zs
open PySem
/-- the same heap, but for the places in `W` -/
def Same (W : List Addr) (h h' : Heap) : Prop := h'.objs.size = h.objs.size ∧ ∀ c, c ∉ W → h'.get? c = h.get? c
/-- what was there is there, but for the places in `W` -/
def Off (W : List Addr) (h h' : Heap) : Prop := ∀ c, c ∉ W → ∀ o, h.get? c = some o → h'.get? c = some o
section
variable {W F : List Addr} {h g k : Heap} {S : Heap → Prop}
theorem Same.one {a : Addr} (x : Heap.SameBut a h g) (m : a ∈ W) : Same W h g := ⟨x.1, fun c n => x.2 c fun q => n (q ▸ m)⟩
theorem Same.step {a : Addr} (x : Same W h g) (y : Heap.SameBut a g k) (m : a ∈ W) : Same W h k :=
  ⟨y.1.trans x.1, fun c n => (y.2 c fun q => n (q ▸ m)).trans (x.2 c n)⟩
theorem Same.off (x : Same W h g) : Off W h g := fun c n _ e => (x.2 c n).trans e
theorem Off.ext {a : Addr} (x : Off W h g) (y : Heap.ExtBut a g k) (m : a ∈ W) : Off W h k := fun c n o e => y c o (fun q => n (q ▸ m)) (x c n o e)
theorem Off.step {a : Addr} (x : Off W h g) (y : Heap.SameBut a g k) (m : a ∈ W) : Off W h k := x.ext y.extBut m
theorem Off.push (x : Off W h g) (ob : Obj) : Off W h (g.push ob) := fun c n o e => Heap.get?_push_of_some ob (x c n o e)
/-- `S` hangs on the places in `F` alone -/
def On (F : List Addr) (S : Heap → Prop) : Prop := ∀ h g, S h → (∀ c, c ∈ F → ∀ o, h.get? c = some o → g.get? c = some o) → S g
theorem On.but {a : Addr} (n : On F S) (x : S h) (y : Heap.SameBut a h g) (d : a ∉ F) : S g := n h g x fun c m _ e => (y.2 c fun q => d (q ▸ m)).trans e
theorem On.push (n : On F S) (x : S h) (ob : Obj) : S (h.push ob) := n h _ x fun _ _ _ e => Heap.get?_push_of_some ob e
end
/-- the iterator at `it`, asked once where `S` holds: it hands out a value of which `P` speaks and leaves `S'`; with no `P` it stops -/
structure Once (prog : Program) (w : World) (A : Around) (it : Addr) (F : List Addr) (S : Heap → Prop) (P : Option (Value → Prop)) (S' : Heap → Prop) : Prop where
  old : On F S
  new : On F S'
  asked : ∀ (s : Shared) (Q E : Value → Shared → Prop), S s.heap →
    (∀ p v h tk, P = some p → p v → S' h → Heap.SameBut it s.heap h → Q v { s with heap := h, toks := tk }) →
    (∀ h e, P = none → Heap.ExtBut it s.heap h → (∃ o, h.get? e = some o ∧ o.cls = .type "StopIteration") → E (.ref e) { s with heap := h }) →
    wpAny (model prog w) A (Builtin.SmallTypes.nextOf (.ref it)) Q E s
section
variable {A : Around} {prog : Program} {w : World}
/-- a list's iterator -/
theorem Once.list (calm : A.handled = none) {it l : Addr} (far : l ≠ it) (xs : Array Value) (i : Nat) :
    Once prog w A it [it, l] (fun h => h.IsListIter it l i ∧ h.IsList l xs) (xs[i]?.map fun x v => v = x) (fun h => h.IsListIter it l (i + 1) ∧ h.IsList l xs) where
  old := fun _ _ x k => ⟨x.1.at (k it (by simp)), x.2.at (k l (by simp))⟩
  new := fun _ _ x k => ⟨x.1.at (k it (by simp)), x.2.at (k l (by simp))⟩
  asked := fun s Q E x yes no => by
    cases q : xs[i]? with
    | none => exact wpAny_nextOf_list_end calm x.1 x.2 q fun h e b t => no h e (by rw [q]; rfl) b t
    | some v => exact wpAny_nextOf_list_item x.1 x.2 q fun h n b => yes (fun u => u = v) v h s.toks (by rw [q]; rfl) rfl ⟨n, x.2.at fun o z => (b.2 l far).trans z⟩ b
/-- a text's iterator (all of its signs below 128) -/
theorem Once.text (calm : A.handled = none) {it : Addr} (y : Str) (t : Tok) (i : Nat) :
    Once prog w A it [it] (fun h => h.IsStrIter it "str_ascii_iterator" y t i) (y.cps[i]?.map fun c v => ∃ u, v = .str ⟨#[c]⟩ u) (fun h => h.IsStrIter it "str_ascii_iterator" y t (i + 1)) where
  old := fun _ _ ⟨o, g, r⟩ k => ⟨o, k it (by simp) o g, r⟩
  new := fun _ _ ⟨o, g, r⟩ k => ⟨o, k it (by simp) o g, r⟩
  asked := fun s Q E x yes no => by
    cases q : y.cps[i]? with
    | none => exact wpAny_nextOf_ascii_end calm x q fun h e b t => no h e (by rw [q]; rfl) b t
    | some c => exact wpAny_nextOf_ascii_item x q fun h n b => yes (fun v => ∃ u, v = .str ⟨#[c]⟩ u) _ h (s.toks + 1) (by rw [q]; rfl) ⟨_, rfl⟩ n b
end
/-- the places of a zip over two iterators, all of them others -/
structure Places (z TI TO i1 i2 : Addr) (F1 F2 : List Addr) : Prop where
  five : [z, TI, TO, i1, i2].Nodup
  one : z ∉ F1 ∧ TO ∉ F1 ∧ i2 ∉ F1
  two : z ∉ F2 ∧ TO ∉ F2 ∧ i1 ∉ F2
section
variable {prog : Program} {w : World} {A : Around} {s : Shared} {E : Value → Shared → Prop} {z TI TO i1 i2 : Addr} {F1 F2 : List Addr} {S1 S2 S1' S2' : Heap → Prop} {P1 P2 : Option (Value → Prop)}
/-- an iterator has stopped: zip lets its pair go -/
theorem freed {f0 : Value} {e : Addr} (hz : IsZip s.heap z TI TO f0) (t : ∃ o, s.heap.get? e = some o ∧ o.cls = .type "StopIteration")
    (go : ∀ h, Heap.SameBut z s.heap h → (∃ o, h.get? e = some o ∧ o.cls = .type "StopIteration") → E (.ref e) { s with heap := h }) :
    wpAny (model prog w) A (setField (.ref z) 0 .none) (fun _ r => E (.ref e) r) E s := by
  obtain ⟨o, g, c⟩ := t
  have ne : e ≠ z := by
    rintro rfl
    rw [hz] at g
    cases g
    simp at c
  apply wpAny_setField_rec hz (by simp)
  exact fun h _ b => go h b ⟨o, (b.2 e ne).trans g, c⟩
/-- one step of a zip over two iterators -/
theorem step {a b : Value} {Q : Value → Shared → Prop} (O1 : Once prog w A i1 F1 S1 P1 S1') (O2 : Once prog w A i2 F2 S2 P2 S2') (D : Places z TI TO i1 i2 F1 F2)
    (hz : IsZip s.heap z TI TO .none) (hI : IsPair s.heap TI (.ref i1) (.ref i2)) (hO : IsPair s.heap TO a b) (x1 : S1 s.heap) (x2 : S2 s.heap)
    (both : ∀ p q u v h tk, P1 = some p → P2 = some q → p u → q v → IsZip h z TI TO (rawInt s.heap.objs.size) → IsPair h TO u v → IsPair h s.heap.objs.size u v → S1' h → S2' h →
      h.objs.size = s.heap.objs.size + 1 → Off [z, TO, i1, i2] s.heap h → Q (.ref s.heap.objs.size) { s with heap := h, toks := tk })
    (over : P1 = none ∨ P2 = none → ∀ h tk e, Off [z, TO, i1, i2] s.heap h → (∃ o, h.get? e = some o ∧ o.cls = .type "StopIteration") → E (.ref e) { s with heap := h, toks := tk }) :
    wpAny (model prog w) A (Builtin.«zip.__next__» ⟨[.ref z], []⟩) (fun f r => ∃ v, f = .done (.ret v) ∧ Q v r) E s := by
  have ⟨⟨_, zTO, zi1, zi2⟩, _, ⟨TOi1, TOi2⟩, _⟩ : (z ≠ TI ∧ z ≠ TO ∧ z ≠ i1 ∧ z ≠ i2) ∧ (TI ≠ TO ∧ TI ≠ i1 ∧ TI ≠ i2) ∧ (TO ≠ i1 ∧ TO ≠ i2) ∧ i1 ≠ i2 := by simpa using D.five
  have mz : z ∈ [z, TO, i1, i2] := by simp
  have mO : TO ∈ [z, TO, i1, i2] := by simp
  have m1 : i1 ∈ [z, TO, i1, i2] := by simp
  have m2 : i2 ∈ [z, TO, i1, i2] := by simp
  -- what zip reads of itself
  apply wpAny_bind (m := field (.ref z) 2)
  apply wpAny_field hz rfl (x := .bool false) rfl
  apply wpAny_bind (m := field (.ref z) 3)
  apply wpAny_field hz rfl (x := .ref TI) rfl
  apply wpAny_bind
  apply wpAny_seqItems hI rfl
  apply wpAny_bind (m := Builtin.SmallTypes.ownedTupleIsFree (.ref z))
  apply wpAny_bind (m := field (.ref z) 0)
  apply wpAny_field hz rfl (x := .none) rfl
  apply wpAny_pure
  apply wpAny_bind
  apply wpAny_rule
  apply wpAny_bind
  apply wpAny_field hz rfl (x := .ref TO) rfl
  apply wpAny_bind
  apply wpAny_setField_rec hz (by simp)
  intro h1 z1 b1
  -- the first iterator
  apply wpAny_bind
  rw [show (#[Value.ref i1, .ref i2] : Array Value).toList.zipIdx = [(.ref i1, 0), (.ref i2, 1)] from rfl, List.forIn_cons]
  apply wpAny_bind
  apply wpAny_bind
  apply wpAny_onRaise
  apply wpAny_bind (m := Builtin.SmallTypes.nextOf (.ref i1))
  apply O1.asked _ _ _ (O1.old.but x1 b1 D.one.1)
  case _ =>
    intro p u h2 tk2 e1 pu y1 b2
    apply wpAny_pure
    have O2' : IsPair h2 TO a b := (b2.2 TO TOi1).trans ((b1.2 TO zTO.symm).trans hO)
    apply wpAny_bind
    apply wpAny_seqItems O2' rfl
    apply wpAny_bind
    apply wpAny_updateSeq_pair O2'
    intro h3 put3 b3
    have O3 : IsPair h3 TO u b := put3
    apply wpAny_bind
    apply wpAny_letGo
    apply wpAny_pure
    -- the second one
    dsimp only
    rw [List.forIn_cons]
    apply wpAny_bind
    apply wpAny_bind
    apply wpAny_onRaise
    apply wpAny_bind (m := Builtin.SmallTypes.nextOf (.ref i2))
    have z3 : IsZip h3 z TI TO .ellipsis := (b3.2 z zTO).trans ((b2.2 z zi1).trans z1)
    have w3 : Same [z, TO, i1, i2] s.heap h3 := ((Same.one b1 mz).step b2 m1).step b3 mO
    apply O2.asked _ _ _ (O2.old.but (O2.old.but (O2.old.but x2 b1 D.two.1) b2 D.two.2.2) b3 D.two.2.1)
    case _ =>
      intro q v h4 tk4 e2 qv y2 b4
      apply wpAny_pure
      have O4 : IsPair h4 TO u b := (b4.2 TO TOi2).trans O3
      apply wpAny_bind
      apply wpAny_seqItems O4 rfl
      apply wpAny_bind
      apply wpAny_updateSeq_pair O4
      intro h5 put5 b5
      have O5 : IsPair h5 TO u v := put5
      apply wpAny_bind
      apply wpAny_letGo
      apply wpAny_pure
      dsimp only
      rw [List.forIn_nil]
      apply wpAny_pure
      -- the new pair
      have w5 : Same [z, TO, i1, i2] s.heap h5 := (w3.step b4 m2).step b5 mO
      have z5 : IsZip h5 z TI TO .ellipsis := (b5.2 z zTO).trans ((b4.2 z zi2).trans z3)
      apply wpAny_bind
      apply wpAny_seqItems O5 rfl
      apply wpAny_bind
      refine wpAny_newTuple ?_
      have z6 : IsZip (h5.push { cls := .type "tuple", data := .seq #[u, v] }) z TI TO .ellipsis := Heap.get?_push_of_some _ z5
      apply wpAny_bind (m := Builtin.SmallTypes.ownedTupleHandOut (.ref z) (.ref h5.objs.size))
      apply wpAny_bind (m := setField (.ref z) 0 (rawInt h5.objs.size))
      apply wpAny_setField_rec z6 (by simp)
      intro h7 z7 b7
      apply wpAny_setField_rec z7 (by simp)
      intro h8 z8 b8
      apply wpAny_pure
      have fresh : h5.objs.size ≠ z := Nat.ne_of_gt (Heap.lt_size z5)
      have T8 : IsPair h8 h5.objs.size u v := (b8.2 _ fresh).trans ((b7.2 _ fresh).trans (Heap.get?_push_size _ rfl))
      have z8' : IsZip h8 z TI TO (rawInt h5.objs.size) := z8
      have O8 : IsPair h8 TO u v := (b8.2 TO zTO.symm).trans ((b7.2 TO zTO.symm).trans (Heap.get?_push_of_some _ O5))
      have k1 := O1.new.but (O1.new.but (O1.new.push (O1.new.but (O1.new.but (O1.new.but y1 b3 D.one.2.1) b4 D.one.2.2) b5 D.one.2.1) _) b7 D.one.1) b8 D.one.1
      have k2 := O2.new.but (O2.new.but (O2.new.push (O2.new.but y2 b5 D.two.2.1) _) b7 D.two.1) b8 D.two.1
      have n8 : h8.objs.size = h5.objs.size + 1 := b8.1.trans (b7.1.trans (Heap.size_push ..))
      have off := ((w5.off.push _).step b7 mz).step b8 mz
      rw [show h5.objs.size = s.heap.objs.size from w5.1] at *
      exact ⟨_, rfl, both p q u v h8 tk4 e1 e2 pu qv z8' O8 T8 k1 k2 n8 off⟩
    case _ =>
      intro h4 e none2 b4 t4
      apply freed (s := { s with heap := h4, toks := tk2 }) (b4 z _ zi2 z3) t4
      intro h5 b5 t5
      exact over (.inr none2) h5 tk2 e ((w3.off.ext b4 m2).step b5 mz) t5
  case _ =>
    intro h2 e none1 b2 t2
    apply freed (s := { s with heap := h2 }) (b2 z _ zi1 z1) t2
    intro h3 b3 t3
    exact over (.inl none1) h3 s.toks e (((Same.one b1 mz).off.ext b2 m1).step b3 mz) t3
/-- `next` of a zip over two iterators -/
theorem next {a b : Value} {Q : Option Value → Shared → Prop} (O1 : Once prog w A.in1 i1 F1 S1 P1 S1') (O2 : Once prog w A.in1 i2 F2 S2 P2 S2') (D : Places z TI TO i1 i2 F1 F2)
    (hz : IsZip s.heap z TI TO .none) (hI : IsPair s.heap TI (.ref i1) (.ref i2)) (hO : IsPair s.heap TO a b) (x1 : S1 s.heap) (x2 : S2 s.heap)
    (both : ∀ p q u v h tk, P1 = some p → P2 = some q → p u → q v → IsZip h z TI TO (rawInt s.heap.objs.size) → IsPair h TO u v → IsPair h s.heap.objs.size u v → S1' h → S2' h →
      h.objs.size = s.heap.objs.size + 1 → Off [z, TO, i1, i2] s.heap h → Q (some (.ref s.heap.objs.size)) { s with heap := h, toks := tk })
    (over : P1 = none ∨ P2 = none → ∀ h tk, Off [z, TO, i1, i2] s.heap h → Q none { s with heap := h, toks := tk }) : wpAny (model prog w) A (pyNext (.ref z)) Q E s := by
  have kind : s.TypeIs (.ref z) "zip" := ⟨_, hz, rfl⟩
  apply wpAny_bind (m := (callSpecial? (.ref z) "__next__").attempt)
  apply wpAny_attempt
  apply wpAny_callSpecial?_slot kind F.slot_zip_next
  apply wpAny_call_entry F.slot_zip_next kind F.entry_zip_next _ (F.args_zip_next_1 _)
  apply step O1 O2 D hz hI hO x1 x2
  case both => exact fun p q u v h tk c1 c2 c3 c4 c5 c6 c7 c8 c9 d1 d2 => wpAny_pure (both p q u v h tk c1 c2 c3 c4 c5 c6 c7 c8 c9 d1 d2)
  case over =>
    rintro no h tk e off ⟨o, g, c⟩
    apply wpAny_bind
    exact wpAny_isInstance (s := { s with heap := h, toks := tk }) (v := .ref e) (T := "StopIteration") (b := true) ⟨o, g, c⟩ isSubtype_stop (wpAny_pure (over no h tk off))
end
/-! ### a list and a text -/
abbrev IsSI (h : Heap) (it : Addr) (y : Str) (t : Tok) (i : Nat) : Prop := h.IsStrIter it "str_ascii_iterator" y t i
theorem IsSI.at {h g : Heap} {it : Addr} {y : Str} {t : Tok} {i : Nat} (x : IsSI h it y t i) (k : ∀ o, h.get? it = some o → g.get? it = some o) : IsSI g it y t i :=
  match x with
  | ⟨o, e, r⟩ => ⟨o, k o e, r⟩
structure Apart (z TI TO i1 i2 l : Addr) : Prop where
  five : [z, TI, TO, i1, i2].Nodup
  far : l ∉ [z, TI, TO, i1, i2]
theorem apart_new (n l : Nat) (lt : l < n) : Apart (n + 4) (n + 2) (n + 3) n (n + 1) l := by
  constructor
  · simp [Nat.add_assoc]
  · have off : ∀ k, l ≠ n + k := fun k => Nat.ne_of_lt (Nat.lt_of_lt_of_le lt (Nat.le_add_right n k))
    simp only [List.mem_cons, List.not_mem_nil, or_false, not_or]
    exact ⟨off 4, off 2, off 3, off 0, off 1⟩
section
variable {z TI TO i1 i2 l : Addr} (D : Apart z TI TO i1 i2 l)
include D
theorem Apart.all : ((z ≠ TI ∧ z ≠ TO ∧ z ≠ i1 ∧ z ≠ i2) ∧ (TI ≠ TO ∧ TI ≠ i1 ∧ TI ≠ i2) ∧ (TO ≠ i1 ∧ TO ≠ i2) ∧ i1 ≠ i2) ∧ l ≠ z ∧ l ≠ TI ∧ l ≠ TO ∧ l ≠ i1 ∧ l ≠ i2 :=
  ⟨by simpa using D.five, by simpa using D.far⟩
theorem Apart.places : Places z TI TO i1 i2 [i1, l] [i2] := by
  obtain ⟨⟨⟨_, _, z1, z2⟩, _, ⟨o1, o2⟩, n12⟩, lz, _, lo, _, l2⟩ := D.all
  exact ⟨D.five, by simp [z1, o1, n12.symm, lz.symm, lo.symm, l2.symm], by simp [z2, o2, n12]⟩
theorem Apart.TIz : TI ≠ z := D.all.1.1.1.symm
theorem Apart.TOz : TO ≠ z := D.all.1.1.2.1.symm
theorem Apart.i1z : i1 ≠ z := D.all.1.1.2.2.1.symm
theorem Apart.i2z : i2 ≠ z := D.all.1.1.2.2.2.symm
theorem Apart.TIout : TI ∉ [z, TO, i1, i2] := by
  obtain ⟨⟨⟨a, _⟩, ⟨b, c, d⟩, _⟩, _⟩ := D.all
  simp [a.symm, b, c, d]
variable {prog : Program} {w : World} {A : Around} {s : Shared} {E : Value → Shared → Prop} {a b : Value} {xs : Array Value} {y : Str} {t : Tok} {k : Nat} {Q : Option Value → Shared → Prop}
theorem pyNext_both (calm : A.handled = none) (hz : IsZip s.heap z TI TO .none) (hI : IsPair s.heap TI (.ref i1) (.ref i2)) (hO : IsPair s.heap TO a b) (h1 : s.heap.IsListIter i1 l k) (h2 : IsSI s.heap i2 y t k) (hl : s.heap.IsList l xs)
    (both : ∀ x c, xs[k]? = some x → y.cps[k]? = some c → ∀ h tk u, IsZip h z TI TO (rawInt s.heap.objs.size) → IsPair h TO x (.str ⟨#[c]⟩ u) → h.IsListIter i1 l (k + 1) → IsSI h i2 y t (k + 1) →
      IsPair h s.heap.objs.size x (.str ⟨#[c]⟩ u) → Off [z, TO, i1, i2] s.heap h → Q (some (.ref s.heap.objs.size)) { s with heap := h, toks := tk })
    (over : xs[k]? = none ∨ y.cps[k]? = none → ∀ h tk, Off [z, TO, i1, i2] s.heap h → Q none { s with heap := h, toks := tk }) : wpAny (model prog w) A (pyNext (.ref z)) Q E s := by
  have of1 := Once.list (prog := prog) (w := w) (A := A.in1) (it := i1) calm D.all.2.2.2.2.1 xs k
  have of2 := Once.text (prog := prog) (w := w) (A := A.in1) (it := i2) calm y t k
  apply next of1 of2 D.places hz hI hO (And.intro h1 hl) h2
  · intro p q u v h tk e1 e2 pu qv z' o' T' n1 n2 _ off
    obtain ⟨x, ex, rfl⟩ := Option.map_eq_some_iff.mp e1
    obtain ⟨c, ec, rfl⟩ := Option.map_eq_some_iff.mp e2
    obtain ⟨r, rfl⟩ := qv
    obtain rfl : u = x := pu
    exact both u c ex ec h tk r z' o' n1.1 n2 T' off
  · exact fun no => over (no.imp Option.map_eq_none_iff.mp Option.map_eq_none_iff.mp)
theorem pyNext_item {x : Value} {c : Nat} (calm : A.handled = none) (hz : IsZip s.heap z TI TO .none) (hI : IsPair s.heap TI (.ref i1) (.ref i2)) (hO : IsPair s.heap TO a b) (h1 : s.heap.IsListIter i1 l k) (h2 : IsSI s.heap i2 y t k) (hl : s.heap.IsList l xs)
    (hx : xs[k]? = some x) (hy : y.cps[k]? = some c)
    (go : ∀ h tk u, IsZip h z TI TO (rawInt s.heap.objs.size) → IsPair h TO x (.str ⟨#[c]⟩ u) → h.IsListIter i1 l (k + 1) → IsSI h i2 y t (k + 1) → IsPair h s.heap.objs.size x (.str ⟨#[c]⟩ u) → Off [z, TO, i1, i2] s.heap h →
      Q (some (.ref s.heap.objs.size)) { s with heap := h, toks := tk }) : wpAny (model prog w) A (pyNext (.ref z)) Q E s := by
  apply pyNext_both D calm hz hI hO h1 h2 hl
  · intro x' c' ex ec
    obtain rfl : x' = x := Option.some.inj (ex.symm.trans hx)
    obtain rfl : c' = c := Option.some.inj (ec.symm.trans hy)
    exact go
  · intro no
    simp [hx, hy] at no
theorem pyNext_end (calm : A.handled = none) (hz : IsZip s.heap z TI TO .none) (hI : IsPair s.heap TI (.ref i1) (.ref i2)) (hO : IsPair s.heap TO a b) (h1 : s.heap.IsListIter i1 l k) (h2 : IsSI s.heap i2 y t k) (hl : s.heap.IsList l xs)
    (no : xs[k]? = none ∨ y.cps[k]? = none) (go : ∀ h tk, Off [z, TO, i1, i2] s.heap h → Q none { s with heap := h, toks := tk }) : wpAny (model prog w) A (pyNext (.ref z)) Q E s := by
  apply pyNext_both D calm hz hI hO h1 h2 hl
  · intro x c ex ec
    simp [ex, ec] at no
  · exact fun _ => go
end
theorem sub {z TI TO i1 i2 c : Addr} (m : c ∈ [z, TO, i1, i2]) : c ∈ [z, TI, TO, i1, i2] := by
  simp only [List.mem_cons] at m ⊢
  rcases m with q | q | q | q | q <;> simp [q]
/-! ### making one -/
/-- objects laid one behind the other -/
def pile (h : Heap) : List Obj → Heap
  | [] => h
  | o :: r => pile (h.push o) r
theorem pile_old {c : Addr} {o : Obj} : ∀ (os : List Obj) (h : Heap), h.get? c = some o → (pile h os).get? c = some o
  | [], _, e => e
  | p :: r, h, e => pile_old r (h.push p) (Heap.get?_push_of_some p e)
theorem pile_at {o : Obj} (live : o.isFreed = false) : ∀ (os : List Obj) (h : Heap) (i : Nat), os[i]? = some o → (pile h os).get? (h.objs.size + i) = some o
  | [], _, _, e => by simp at e
  | p :: r, h, 0, e => by
    obtain rfl : p = o := by simpa using e
    exact pile_old r _ (Heap.get?_push_size h live)
  | p :: r, h, i + 1, e => by
    have := pile_at live r (h.push p) i (by simpa using e)
    rwa [Heap.size_push, Nat.add_assoc, Nat.add_comm 1] at this
/-- the five objects of zip(l, y) -/
def five (n l : Addr) (y : Str) (t : Tok) : List Obj :=
  [{ cls := .type "list_iterator", data := .fields #[.ref l, .int 0 0] }, { cls := .type "str_ascii_iterator", data := .fields #[.str y t, .int 0 0] },
    { cls := .type "tuple", data := .seq #[.ref n, .ref (n + 1)] }, { cls := .type "tuple", data := .seq #[.none, .none] },
    { cls := .type "zip", data := .fields #[.none, .bool false, .bool false, .ref (n + 2), .ref (n + 3)] }]
theorem made (l : Addr) (xs : Array Value) (y : Str) (t : Tok) (asc : y.cps.all (· < 128) = true) :
    Meets (Builtin.«zip.__new__» ⟨[.type "zip", .ref l, .str y t], []⟩)
      (fun _ R s => s.heap.IsList l xs ∧ R (.ok (.ret (.ref (s.heap.objs.size + 4)))) { s with heap := pile s.heap (five s.heap.objs.size l y t) }) := by
  apply Meets.of_wp
  rintro prog w A R ⟨hp, g, d, tk, os⟩ ⟨hl, go⟩
  have sub := sub_zip
  wp_walk using wpAny_pyIter_list hl, wpAny_pyIter_ascii asc
  refine ⟨_, rfl, ?_⟩
  simpa [Heap.size_push, pile, five, Nat.add_assoc, Builtin.SmallTypes.ownedTupleFields] using go
theorem call_zip {prog : Program} {w : World} {A : Around} {s : Shared} {E : Value → Shared → Prop} {l : Addr} {xs : Array Value} {y : Str} {t : Tok} {Q : Value → Shared → Prop} (asc : y.cps.all (· < 128) = true) (hl : s.heap.IsList l xs)
    (go : ∀ h, IsZip h (s.heap.objs.size + 4) (s.heap.objs.size + 2) (s.heap.objs.size + 3) .none → IsPair h (s.heap.objs.size + 2) (.ref s.heap.objs.size) (.ref (s.heap.objs.size + 1)) → IsPair h (s.heap.objs.size + 3) .none .none →
      h.IsListIter s.heap.objs.size l 0 → IsSI h (s.heap.objs.size + 1) y t 0 → (∀ c o, s.heap.get? c = some o → h.get? c = some o) → Q (.ref (s.heap.objs.size + 4)) { s with heap := h }) :
    wpAny (model prog w) A (call (.type "zip") [.ref l, .str y t]) Q E s := by
  have lies : ∀ i o, o.isFreed = false → (five s.heap.objs.size l y t)[i]? = some o → (pile s.heap (five s.heap.objs.size l y t)).get? (s.heap.objs.size + i) = some o := fun i o live e => pile_at live _ _ i e
  apply callType_new F.called_zip (by decide) (F.typeCall_zip_2 _ _) (F.newCall_zip_2 _ _) (fun x => F.args_object_init_3 x _ _) F.entry_zip_new (made l xs y t asc)
  refine ⟨hl, ⟨_, lies 4 _ rfl rfl, rfl⟩, ?_⟩
  exact go _ (lies 4 _ rfl rfl) (lies 2 _ rfl rfl) (lies 3 _ rfl rfl) ⟨_, lies 0 _ rfl rfl, rfl, rfl⟩ ⟨_, lies 1 _ rfl rfl, rfl, rfl⟩ fun c o e => pile_old _ _ e
end Zs
end

section
set_option Elab.async false
set_option linter.all false
set_option maxRecDepth 100000
/-! THE HAND LAYER, for ints, bools, texts, own classes, lists, tuples, dicts, comprehensions, walks over dicts, enumerate, zip, reversed, texts, calls, loops. Paste it whole ahead of your own text; what your proof does not reach may be deleted. -/
namespace L2
open PySem PySem.Spec PyProof.Rows

/-- a key: an int or a str -/
abbrev Key := Sum Int Str
def keyIs : Key → Value → Bool
  | .inl k, v => Value.isInt k v
  | .inr x, v => Value.isStrOf x v
def keyH (w : World) : Key → Int
  | .inl k => hashInt k
  | .inr x => hashStr w x
theorem keyIs_shape : ∀ {k : Key} {v : Value}, keyIs k v = true → (∃ i t, k = Sum.inl i ∧ v = Value.int i t) ∨ (∃ x t, k = Sum.inr x ∧ v = Value.str x t)
  | .inl i, v, h => by
    obtain ⟨t, e⟩ := Value.isInt_shape (k := i) (v := v) h
    exact .inl ⟨i, t, rfl, e⟩
  | .inr x, v, h => by
    obtain ⟨t, e⟩ := Value.isStrOf_shape (x := x) (v := v) h
    exact .inr ⟨x, t, rfl, e⟩
theorem keyIs_int (i : Int) (t : Tok) : keyIs (.inl i) (.int i t) = true := by simp [keyIs, Value.isInt]
theorem keyIs_str (x : Str) (t : Tok) : keyIs (.inr x) (.str x t) = true := by simp [keyIs, Value.isStrOf]
theorem key_ll (a b : Int) : decide ((Sum.inl a : Key) = Sum.inl b) = (a == b) := by
  by_cases e : a = b
  · subst e; simp
  · have h : ¬ (Sum.inl a : Key) = Sum.inl b := fun q => e (Sum.inl.inj q)
    rw [decide_eq_false h]
    exact (beq_eq_false_iff_ne.mpr e).symm
theorem key_rr (a b : Str) : decide ((Sum.inr a : Key) = Sum.inr b) = decide (a = b) := by
  by_cases e : a = b
  · subst e; simp
  · have h : ¬ (Sum.inr a : Key) = Sum.inr b := fun q => e (Sum.inr.inj q)
    rw [decide_eq_false h, decide_eq_false e]
theorem key_lr (a : Int) (b : Str) : decide ((Sum.inl a : Key) = Sum.inr b) = false := decide_eq_false (fun q => nomatch q)
theorem key_rl (a : Str) (b : Int) : decide ((Sum.inr a : Key) = Sum.inl b) = false := decide_eq_false (fun q => nomatch q)

def mixKind (prog : Program) (w : World) : PySem.KeyKind prog w Key where
  is := keyIs
  hash := keyH w
  inj := fun v a b ha hb => by
    rcases keyIs_shape ha with ⟨i, t, rfl, rfl⟩ | ⟨x, t, rfl, rfl⟩
    · rcases keyIs_shape hb with ⟨j, u, rfl, e⟩ | ⟨y, u, rfl, e⟩
      · injection e with e1 _; rw [e1]
      · exact nomatch e
    · rcases keyIs_shape hb with ⟨j, u, rfl, e⟩ | ⟨y, u, rfl, e⟩
      · exact nomatch e
      · injection e with e1 _; rw [e1]
  byValue := fun k v h => by
    rcases keyIs_shape h with ⟨i, t, rfl, rfl⟩ | ⟨x, t, rfl, rfl⟩ <;> rfl
  pyHash := fun hv h => by
    rcases keyIs_shape hv with ⟨i, t, rfl, rfl⟩ | ⟨x, t, rfl, rfl⟩
    · exact wpAny_pyHash_int h
    · exact wpAny_pyHash_str h
  eqBool := fun hu hv h => by
    rcases keyIs_shape hu with ⟨i, t, rfl, rfl⟩ | ⟨x, t, rfl, rfl⟩
    · rcases keyIs_shape hv with ⟨j, u, rfl, rfl⟩ | ⟨y, u, rfl, rfl⟩
      · rw [key_ll] at h; exact wpAny_eqBool_int h
      · rw [key_lr] at h; exact SeqAt.EqAt.int_str i t y u _ _ _ _ h
    · rcases keyIs_shape hv with ⟨j, u, rfl, rfl⟩ | ⟨y, u, rfl, rfl⟩
      · rw [key_rl] at h; exact SeqAt.EqAt.str_int x t j u _ _ _ _ h
      · rw [key_rr] at h; exact wpAny_eqBool_str h
  «strs» := fun k x t v h => by
    rcases keyIs_shape h with ⟨i, u, rfl, e⟩ | ⟨y, u, rfl, e⟩
    · exact nomatch e
    · injection e with e1 _
      subst e1
      cases v <;> rfl

theorem mixKind_int (prog : Program) (w : World) (i : Int) (t : Tok) : (mixKind prog w).is (.inl i) (.int i t) = true := keyIs_int i t
theorem mixKind_str (prog : Program) (w : World) (x : Str) (t : Tok) : (mixKind prog w).is (.inr x) (.str x t) = true := keyIs_str x t
end L2

namespace L2
open PySem PySem.Spec PyProof.Rows

/-- a value, without the heap -/
inductive V where
  | non | bl (b : Bool) | int (i : Int) | str (x : Str) | byt (b : Array UInt8) | flt (b : UInt64) | ref (a : Addr) | ty (n : String)
  deriving DecidableEq

def RelV : V → Value → Prop
  | .non, u => u = Value.none
  | .bl b, u => u = Value.bool b
  | .int i, u => ∃ t, u = Value.int i t
  | .str x, u => ∃ t, u = Value.str x t
  | .byt b, u => ∃ t, u = Value.bytes b t
  | .flt b, u => ∃ t, u = Value.float b t
  | .ref a, u => u = Value.ref a
  | .ty n, u => u = Value.type n

abbrev Vals : List V → List Value → Prop := Paired RelV
theorem Vals.length {xs : List V} {us : List Value} (r : Vals xs us) : xs.length = us.length := Paired.length r
theorem Vals.get : ∀ {xs : List V} {us : List Value} {i : Nat} {x : V}, Vals xs us → xs[i]? = some x → ∃ u, us[i]? = some u ∧ RelV x u
  | _, _, _, _, .nil, e => by simp at e
  | _, _, 0, _, .cons r _, e => by simp at e; subst e; exact ⟨_, rfl, r⟩
  | _, _, i + 1, x, .cons _ t, e => by
    obtain ⟨u, h1, h2⟩ := Vals.get (i := i) (x := x) t (by simpa using e)
    exact ⟨u, by simpa using h1, h2⟩
theorem Vals.append : ∀ {xs ys : List V} {us ws : List Value}, Vals xs us → Vals ys ws → Vals (xs ++ ys) (us ++ ws)
  | _, _, _, _, .nil, s => s
  | _, _, _, _, .cons r t, s => .cons r (Vals.append t s)
theorem Vals.take : ∀ {xs : List V} {us : List Value} (n : Nat), Vals xs us → Vals (xs.take n) (us.take n)
  | _, _, 0, _ => .nil
  | _, _, _ + 1, .nil => .nil
  | _, _, n + 1, .cons r t => .cons r (Vals.take n t)
theorem Vals.drop : ∀ {xs : List V} {us : List Value} (n : Nat), Vals xs us → Vals (xs.drop n) (us.drop n)
  | _, _, 0, r => r
  | _, _, _ + 1, .nil => .nil
  | _, _, n + 1, .cons _ t => Vals.drop n t

def RelO : Option V → Option Value → Prop
  | some v, some u => RelV v u
  | none, none => True
  | _, _ => False
def KV {κ : Type} : List (κ × V) → List (κ × Value) → Prop := Paired fun (p : κ × V) (q : κ × Value) => p.1 = q.1 ∧ RelV p.2 q.2

/-- a key of a dict (00_mix): an int or a text -/
def kV : Key → V
  | .inl i => .int i
  | .inr x => .str x

/-- what stands at a tracked address -/
inductive HO where
  /-- a list -/
  | lst (xs : List V)
  /-- a tuple (never changes) -/
  | tup (xs : List V)
  /-- a dict whose keys are ints and texts; one whose keys are tuples of ints and texts (the empty one is both) -/
  | dK (kvs : List (Key × V)) | dT (kvs : List (List Key × V))
  /-- a set of ints: its members, its size -/
  | set (S : Int → Bool) (n : Nat)
  /-- an instance of the class at C, its dict at dx, its attributes -/
  | ins (C dx : Addr) (fs : List (Str × V))
  /-- the dict of the instance at x -/
  | own (x : Addr)
  /-- the dict of an exception -/
  | xd (fs : List (Str × V))
  /-- a bound method, f of x -/
  | met (f x : Addr)
  /-- a range object lo, lo + 1, .. below hi -/
  | rng (lo hi : Int)
  /-- a thing that is known to the object (the script; a dict while a loop walks it): read, never written while it is so -/
  | frz (o : Obj) (u : HO)
  /-- a code object's table -/
  | tbl (ps : Array Value)
  /-- any other thing, by what is true of its one object (a def of one's own: SetO a S n := HO.ext fun h => ..) -/
  | ext (φ : Heap → Prop)

abbrev Hp := Addr → Option HO
def upd (H : Hp) (a : Addr) (o : HO) : Hp := fun b => if b = a then some o else H b
theorem upd_same {H : Hp} {a : Addr} {o : HO} : upd H a o a = some o := by unfold upd; rw [if_pos rfl]
theorem upd_ne {H : Hp} {a b : Addr} {o : HO} (h : b ≠ a) : upd H a o b = H b := by unfold upd; rw [if_neg h]
theorem upd_upd {H : Hp} {a : Addr} {o u : HO} : upd (upd H a o) a u = upd H a u := by
  funext b; unfold upd; split <;> rfl
/-- two objects of different content stand apart -/
theorem ne_of {H : Hp} {a b : Addr} {o u : HO} (h : H a = some o) (h' : H b = some u) (d : o ≠ u) : a ≠ b := by
  intro e; subst e; rw [h] at h'; exact d (Option.some.inj h')
theorem ne_of_none {H : Hp} {a b : Addr} {o : HO} (h : H a = some o) (h' : H b = none) : a ≠ b := by
  intro e; subst e; rw [h] at h'; cases h'

section
variable (P : Program) (w : World)
def ObjOk (H : Hp) (h : Heap) (a : Addr) : HO → Prop
  | .lst xs => xs.length ≤ sizeLine ∧ ∃ (its : List Value) (n : Nat), Vals xs its ∧ h.get? a = some { cls := .type "list", data := .seq its.toArray n }
  | .tup xs => xs.length ≤ sizeLine ∧ ∃ its : List Value, Vals xs its ∧ IsTup h a its.toArray
  | .dK kvs => kvs.length ≤ sizeLine ∧ (a == sysModules) = false ∧ ∃ vs, KV kvs vs ∧ h.DictOf (mixKind P w) a vs
  | .dT kvs => kvs.length ≤ sizeLine ∧ (a == sysModules) = false ∧ ∃ xs : List (List Key × Addr × Value),
      Paired (fun (p : List Key × V) (q : List Key × Addr × Value) => p.1 = q.1 ∧ H q.2.1 = some (.tup (p.1.map kV)) ∧ RelV p.2 q.2.2) kvs xs ∧
      ∃ o es ep, h.get? a = some o ∧ o.ExactDict ∧ o.data = .dict es ep ∧ es.toList = xs.map (entryOfKey (tupleKind (mixKind P w))) ∧ (xs.map (·.1)).Nodup
  | .set S n => h.SetOf (intKind P w) a S n
  | .ins C dx fs => H dx = some (.own a) ∧ fs.length ≤ 1000 ∧ dx ≠ a ∧ h.get? a = some (PySem.W.instObj C dx) ∧
      ∃ mA, h.Ns1 dx mA ∧ (∀ f, RelO (fs.lookup f) (mA f)) ∧ PySem.Within mA (fs.map (·.1))
  | .own _ => ∃ o, h.get? a = some o
  | .xd fs => ∃ mA, h.Ns1 a mA ∧ ∀ f, RelO (fs.lookup f) (mA f)
  | .rng lo hi => ∃ t u v, h.get? a = some { cls := .type "range", data := .fields #[.int lo t, .int hi u, .int 1 v] }
  | .frz o u => h.get? a = some o ∧ ObjOk H h a u
  | .tbl ps => h.get? a = some { cls := .none, data := .fields ps }
  | .met f x => h.get? a = some (PySem.W.methodObj (.ref f) (.ref x))
  | .ext φ => φ h ∧ (∃ o, h.get? a = some o) ∧ ∀ h1 h2 : Heap, φ h1 → (∀ o, h1.get? a = some o → h2.get? a = some o) → φ h2
/-- the abstract heap is held -/
def HOk (H : Hp) (h : Heap) : Prop := ∀ a o, H a = some o → ObjOk P w H h a o
end

section
variable {P : Program} {w : World} {H H' : Hp} {h h' : Heap} {a : Addr} {o : HO}
theorem ObjOk.lt (x : ObjOk P w H h a o) : a < h.objs.size := by
  cases o with
  | lst xs => obtain ⟨_, _, _, _, e⟩ := x; exact Heap.lt_size e
  | tup xs => obtain ⟨_, _, _, p⟩ := x; exact p.lt
  | dK kvs => obtain ⟨_, _, _, _, o, _, _, e, _⟩ := x; exact Heap.lt_size e
  | dT kvs => obtain ⟨_, _, _, _, o, _, _, e, _⟩ := x; exact Heap.lt_size e
  | set S n => obtain ⟨o, _, _, _, e, _⟩ := x; exact Heap.lt_size e
  | ins C dx fs => obtain ⟨_, _, _, e, _⟩ := x; exact Heap.lt_size e
  | own y => obtain ⟨_, e⟩ := x; exact Heap.lt_size e
  | xd fs => obtain ⟨_, ⟨_, _, _, e, _⟩, _⟩ := x; exact Heap.lt_size e
  | rng lo hi => obtain ⟨_, _, _, e⟩ := x; exact Heap.lt_size e
  | frz ob u => obtain ⟨e, _⟩ := x; exact Heap.lt_size e
  | tbl ps => exact Heap.lt_size (show h.get? a = some _ from x)
  | met f y => exact Heap.lt_size (show h.get? a = some _ from x)
  | ext φ => obtain ⟨_, ⟨_, e⟩, _⟩ := x; exact Heap.lt_size e
theorem Paired.mapP {α β : Type} {F G : α → β → Prop} : ∀ {l₁ : List α} {l₂ : List β}, Paired F l₁ l₂ → (∀ a b, F a b → G a b) → Paired G l₁ l₂
  | _, _, .nil, _ => .nil
  | _, _, .cons r t, f => .cons (f _ _ r) (Paired.mapP t f)
/-- what an object's description leans on: its own object, its own dict, the tuples -/
theorem ObjOk.stay (x : ObjOk P w H h a o) (k : ∀ b u, (b = a ∨ H b = some (.own a)) → h.get? b = some u → h'.get? b = some u)
    (ho : ∀ b, H b = some (.own a) → H' b = some (.own a)) (ht : ∀ b xs, H b = some (.tup xs) → H' b = some (.tup xs)) : ObjOk P w H' h' a o := by
  induction o with
  | lst xs => obtain ⟨z, its, n, r, e⟩ := x; exact ⟨z, its, n, r, k _ _ (.inl rfl) e⟩
  | tup xs => obtain ⟨z, its, r, ob, e, c⟩ := x; exact ⟨z, its, r, ob, k _ _ (.inl rfl) e, c⟩
  | dK kvs => obtain ⟨z, y, vs, r, ob, es, ep, e, c⟩ := x; exact ⟨z, y, vs, r, ob, es, ep, k _ _ (.inl rfl) e, c⟩
  | dT kvs =>
    obtain ⟨z, y, xs, r, ob, es, ep, e, c⟩ := x
    exact ⟨z, y, xs, Paired.mapP r fun p q z => ⟨z.1, ht _ _ z.2.1, z.2.2⟩, ob, es, ep, k _ _ (.inl rfl) e, c⟩
  | set S n => obtain ⟨ob, es, ep, t, e, c⟩ := x; exact ⟨ob, es, ep, t, k _ _ (.inl rfl) e, c⟩
  | ins C dx fs =>
    obtain ⟨d, z, ne, e, mA, ⟨od, es, ep, e2, c⟩, r⟩ := x
    exact ⟨ho _ d, z, ne, k _ _ (.inl rfl) e, mA, ⟨od, es, ep, k _ _ (.inr d) e2, c⟩, r⟩
  | own y => obtain ⟨ob, e⟩ := x; exact ⟨ob, k _ _ (.inl rfl) e⟩
  | xd fs => obtain ⟨mA, ⟨od, es, ep, e, c⟩, r⟩ := x; exact ⟨mA, ⟨od, es, ep, k _ _ (.inl rfl) e, c⟩, r⟩
  | rng lo hi => obtain ⟨t, u, v, e⟩ := x; exact ⟨t, u, v, k _ _ (.inl rfl) e⟩
  | frz ob u ih => obtain ⟨e, q⟩ := x; exact ⟨k _ _ (.inl rfl) e, ih q⟩
  | tbl ps =>
    have e : h.get? a = some { cls := .none, data := .fields ps } := x
    show h'.get? a = some { cls := .none, data := .fields ps }
    exact k a _ (.inl rfl) e
  | met f y =>
    have e : h.get? a = some (PySem.W.methodObj (.ref f) (.ref y)) := x
    show h'.get? a = some (PySem.W.methodObj (.ref f) (.ref y))
    exact k a _ (.inl rfl) e
  | ext φ => obtain ⟨p, ⟨o, e⟩, st⟩ := x; exact ⟨st _ _ p fun o q => k _ _ (.inl rfl) q, ⟨o, k _ _ (.inl rfl) e⟩, st⟩
theorem HOk.lt (x : HOk P w H h) (e : H a = some o) : a < h.objs.size := (x a o e).lt
theorem HOk.fresh (x : HOk P w H h) (e : h.objs.size ≤ a) : H a = none := by
  cases q : H a with
  | none => rfl
  | some u => exact absurd (Nat.lt_of_lt_of_le (x.lt q) e) (Nat.lt_irrefl _)
/-- every object of the heap is kept -/
theorem HOk.kept (x : HOk P w H h) (k : ∀ b u, h.get? b = some u → h'.get? b = some u) : HOk P w H h' := fun a o e =>
  (x a o e).stay (fun b u _ q => k b u q) (fun _ q => q) fun _ _ q => q
/-- a new object is laid and tracked -/
theorem HOk.laid (x : HOk P w H h) (k : ∀ b u, h.get? b = some u → h'.get? b = some u) (hp : h.objs.size ≤ a) (new : ObjOk P w (upd H a o) h' a o) : HOk P w (upd H a o) h' := fun b u e => by
  have hn := x.fresh hp
  by_cases hb : b = a
  · subst hb; rw [upd_same] at e; cases e; exact new
  · rw [upd_ne hb] at e
    exact (x b u e).stay (fun c v _ q => k c v q) (fun c q => by rw [upd_ne (ne_of_none q hn)]; exact q) fun c xs q => by rw [upd_ne (ne_of_none q hn)]; exact q
end

/-- what may be read as u: it is u, or a known u -/
def Rd (H : Hp) (a : Addr) (u : HO) : Prop := H a = some u ∨ ∃ o, H a = some (.frz o u)
theorem Rd.ok {P : Program} {w : World} {H : Hp} {h : Heap} {a : Addr} {u : HO} (r : Rd H a u) (x : HOk P w H h) : ObjOk P w H h a u := by
  rcases r with r | ⟨o, r⟩
  · exact x a u r
  · obtain ⟨_, q⟩ := x a _ r
    exact q
/-- what may be written -/
def Mut : Option HO → Prop
  | some (.lst _) => True
  | some (.dK _) => True
  | some (.dT _) => True
  | some (.set _ _) => True
  | some (.ins _ _ _) => True
  | some (.ext _) => True
  | _ => False
section
variable {P : Program} {w : World} {H : Hp} {h h' : Heap} {x e : Addr} {o' : HO}
/-- the object at e is changed: x itself, or the dict of the instance x -/
theorem HOk.write (ok : HOk P w H h) (mu : Mut (H x)) (he : e = x ∨ H e = some (.own x)) (k : ∀ b u, b ≠ e → h.get? b = some u → h'.get? b = some u) (heo : ∃ u, h'.get? e = some u)
    (new : ObjOk P w (upd H x o') h' x o') : HOk P w (upd H x o') h' := fun b u q => by
  have nown : ∀ c y, H c = some (.own y) → c ≠ x := fun c y r z => by subst z; rw [r] at mu; exact mu
  have ntup : ∀ c xs, H c = some (.tup xs) → c ≠ x := fun c xs r z => by subst z; rw [r] at mu; exact mu
  by_cases hb : b = x
  · subst hb; rw [upd_same] at q; cases q; exact new
  · rw [upd_ne hb] at q
    by_cases hbe : b = e
    · have q' : H b = some (.own x) := by
        rcases he with z | z
        · exact absurd (hbe.trans z) hb
        · rw [hbe]; exact z
      rw [q] at q'; cases q'
      obtain ⟨v, hv⟩ := heo
      exact ⟨v, by rw [hbe]; exact hv⟩
    · refine (ok b u q).stay (fun c v hc r => k c v ?_ r) (fun c r => by rw [upd_ne (nown c b r)]; exact r) fun c xs r => by rw [upd_ne (ntup c xs r)]; exact r
      rcases hc with rfl | hc
      · exact hbe
      · rintro rfl
        rcases he with z | z
        · exact nown c b hc z
        · rw [hc] at z; cases z; exact hb rfl
end

/-! ### kept unless tracked; of the frames at fs (the callers') the slots may change (an exception that passes writes there); of the records at ex (iterators) nothing is said -/
structure Un (fs ex : List Addr) (H H' : Hp) (h h' : Heap) : Prop where
  keep : ∀ b o, h.get? b = some o → H b = none → b ∉ fs → b ∉ ex → h'.get? b = some o
  slot : ∀ b o, h.get? b = some o → H b = none → b ∈ fs → b ∉ ex → ∃ sl, h'.get? b = some { o with slots := sl }
  free : ∀ b o, h.get? b = some o → H b = none → b ∉ ex → H' b = none
  there : ∀ b o, h.get? b = some o → b ∉ ex → ∃ o', h'.get? b = some o'
  tups : ∀ b xs, H b = some (.tup xs) → H' b = some (.tup xs)
  frzs : ∀ b o u, H b = some (.frz o u) → H' b = some (.frz o u)
  tbls : ∀ b ps, H b = some (.tbl ps) → ∃ more, H' b = some (.tbl (ps ++ more))
section
variable {fs fs' ex ex' : List Addr} {H H1 H2 : Hp} {h h1 h2 h' : Heap} {a x e : Addr} {o : HO}
theorem Un.any (u : Un fs ex H H1 h h1) {b : Addr} {ob : Obj} (q : h.get? b = some ob) (n : H b = none) (hx : b ∉ ex) : ∃ sl, h1.get? b = some { ob with slots := sl } := by
  by_cases hb : b ∈ fs
  · exact u.slot b ob q n hb hx
  · exact ⟨ob.slots, u.keep b ob q n hb hx⟩
theorem Un.kept (k : ∀ b u, h.get? b = some u → h'.get? b = some u) : Un fs ex H H h h' :=
  ⟨fun b ob q _ _ _ => k b ob q, fun b ob q _ _ _ => ⟨ob.slots, k b ob q⟩, fun _ _ _ n _ => n, fun b ob q _ => ⟨ob, k b ob q⟩, fun _ _ q => q, fun _ _ _ q => q, fun _ ps q => ⟨#[], by rw [q]; simp⟩⟩
theorem Un.refl : Un fs ex H H h h := Un.kept fun _ _ q => q
theorem Un.laid (k : ∀ b u, h.get? b = some u → h'.get? b = some u) (hp : h.objs.size ≤ a) (hn : H a = none) : Un fs ex H (upd H a o) h h' where
  keep := fun b u q _ _ _ => k b u q
  slot := fun b u q _ _ _ => ⟨u.slots, k b u q⟩
  free := fun b u q n _ => by rw [upd_ne (Nat.ne_of_lt (Nat.lt_of_lt_of_le (Heap.lt_size q) hp))]; exact n
  there := fun b u q _ => ⟨u, k b u q⟩
  tups := fun b xs q => by rw [upd_ne (ne_of_none q hn)]; exact q
  frzs := fun b u xs q => by rw [upd_ne (ne_of_none q hn)]; exact q
  tbls := fun b ps q => ⟨#[], by rw [upd_ne (ne_of_none q hn), q]; simp⟩
theorem Un.write (mu : Mut (H x)) (he : e = x ∨ H e = some (.own x)) (k : ∀ b u, b ≠ e → h.get? b = some u → h'.get? b = some u) (heo : ∃ u, h'.get? e = some u) : Un fs ex H (upd H x o) h h' := by
  have hx : ∀ b, H b = none → b ≠ x := fun b n z => by subst z; rw [n] at mu; exact mu
  have hb : ∀ b, H b = none → b ≠ e := fun b n z => by
    subst z
    rcases he with r | r
    · exact hx b n r
    · rw [n] at r; cases r
  have hm : ∀ b u, H b = some u → ¬ Mut (some u) → b ≠ x := fun b u q nm z => by subst z; rw [q] at mu; exact nm mu
  refine ⟨fun b u q n _ _ => k b u (hb b n) q, fun b u q n _ _ => ⟨u.slots, k b u (hb b n) q⟩, fun b u q n _ => by rw [upd_ne (hx b n)]; exact n, fun b u q _ => ?_,
    fun b xs q => by rw [upd_ne (hm b _ q fun z => z)]; exact q, fun b u xs q => by rw [upd_ne (hm b _ q fun z => z)]; exact q, fun b ps q => ⟨#[], by rw [upd_ne (hm b _ q fun z => z), q]; simp⟩⟩
  by_cases hbe : b = e
  · subst hbe; exact heo
  · exact ⟨u, k b u hbe q⟩
end

/-! ### the heap without what is tracked -/
def trk (h : Heap) (H : Hp) : List Addr := (List.range h.objs.size).filter fun a => (H a).isSome
def hidT (h : Heap) (H : Hp) : Heap := PySem.W.hideAll h (trk h H)
theorem hidT_size (h : Heap) (H : Hp) : (hidT h H).objs.size = h.objs.size := PySem.W.hideAll_size _ _
theorem hidT_get {h : Heap} {H : Hp} {b : Addr} {o : Obj} (e : h.get? b = some o) (n : H b = none) : (hidT h H).get? b = some o :=
  PySem.W.hideAll_get _ e fun hm => by
    have q : (H b).isSome = true := (List.mem_filter.mp hm).2
    rw [n] at q; simp at q
theorem of_hidT {h : Heap} {H : Hp} {b : Addr} {o : Obj} (e : (hidT h H).get? b = some o) : h.get? b = some o ∧ H b = none := by
  have e' : h.get? b = some o := PySem.W.of_hideAll (trk h H) e
  refine ⟨e', ?_⟩
  cases q : H b with
  | none => rfl
  | some x =>
    have hm : b ∈ trk h H := List.mem_filter.mpr ⟨List.mem_range.mpr (Heap.lt_size e'), by simp [q]⟩
    have z : (hidT h H).get? b = none := PySem.W.hideAll_none (trk h H) hm
    rw [z] at e; cases e

/-! ### OpenK's ledger, filled with every new object but one -/
end L2

namespace L2
open PySem PySem.Spec PyProof.Rows

/-- the module's facts, over the base: the heap at the law's entry without what is tracked there -/
structure Mod (K : PySem.W.Frag) (mg : Str → Option Value) (base : Heap) : Prop where
  kin : K.In base
  glob : base.Ns mainGlobals mg
  blt : ∃ mb, base.Ns builtinsNs mb ∧ ∀ x : Str, x ≠ "__name__" → mb x = bootBuiltins x
  nolimit : base.NoLimit

/-- the context: a def's body (or a comprehension's block) running. base: fixed through the whole law; s₀, H₀: the entry; outer: the frames whose slots others may change (a def's callers); stack: all frames that run;
   ex: iterators that were made ahead of the entry and are walked here (a comprehension's); fn: the names whose cells were made at the entry (a def: all; a comprehension's block: its own); calm: not within an except suite; pn: pins that every state bears; xe: what is wanted of an exception that leaves the code -/
structure Cx where
  prog : Program
  w : World
  K : PySem.W.Frag
  mg : Str → Option Value
  base : Heap
  A : Around
  N : List Str
  s_0 : Shared
  H_0 : Hp
  env : Env
  outer : List Env
  stack : List Env
  ex : List Addr
  fn : Str → Bool
  calm : Bool
  pn : List (Addr × Obj)
  xe : Value → Shared → Prop
/-- the callers' frames -/
def frs (l : List Env) : List Addr := l.filterMap (·.frame)
abbrev Cx.fs (X : Cx) : List Addr := frs X.outer

def Vis (sc : Scope) (x : Str) : Prop := sc.names.lookup x = some .local ∨ sc.names.lookup x = some .cell ∨ sc.names.lookup x = some .free
def Loc (sc : Scope) (x : Str) : Prop := sc.names.lookup x = some .local ∨ sc.names.lookup x = some .cell
def Look (env : Env) (h : Heap) (m : Str → Option Value) (x : Str) (u : Value) : Prop :=
  (env.kindOf x = some .local ∧ m x = some u) ∨ ((env.kindOf x = some .cell ∨ env.kindOf x = some .free) ∧ ∃ c, env.cells.lookup x = some c ∧ h.IsCell c (some u))

structure Cx.Ok (X : Cx) : Prop where
  mod : Mod X.K X.mg X.base
  kind : X.env.scope.kind = .function
  glob : X.env.globals = mainGlobals
  blt : X.env.builtins = builtinsNs
  above : X.s_0.heap.objs.size ≤ X.env.locals
  inj : ∀ x y c, X.env.cells.lookup x = some c → X.env.cells.lookup y = some c → x = y
  has : ∀ x, (X.env.kindOf x = some .cell ∨ X.env.kindOf x = some .free) → ∃ c, X.env.cells.lookup x = some c
  cab : ∀ x c, X.fn x = true → X.env.cells.lookup x = some c → X.s_0.heap.objs.size ≤ c
  hd : X.calm = true → X.A.handled = none
  frames : X.A.frames = some X.stack
  stk : X.stack = X.outer ∨ (X.stack = X.env :: X.outer ∧ X.env.frame = some X.env.locals)
  exf : ∀ b ∈ X.ex, b ≠ X.env.locals ∧ ∀ x c, X.env.cells.lookup x = some c → c ≠ b
  bs : ∀ b o, X.base.get? b = some o → X.s_0.heap.get? b = some o ∧ X.H_0 b = none
  bsz : X.base.objs.size ≤ X.s_0.heap.objs.size
  noex : ∀ b o, X.base.get? b = some o → b ∉ X.ex
  exfs : ∀ b ∈ X.ex, b ∉ X.fs
  funs : X.s_0.heap.FunFrames X.base X.outer
  frf : ∀ b ∈ X.fs, X.H_0 b = none

structure Inv (X : Cx) (pins : List (Addr × Obj)) (σ : List (Option V)) (H : Hp) (s : Shared) : Prop where
  ok : X.Ok
  os : s.os = X.s_0.os
  bare : AllBare s.gens
  base : Un X.fs X.ex X.H_0 H X.s_0.heap s.heap
  loc : ∃ m, s.heap.Ns X.env.locals m ∧ ∀ (i : Nat) (x : Str) (v : V), X.N[i]? = some x → σ[i]? = some (some v) → Vis X.env.scope x → ∃ u, RelV v u ∧ Look X.env s.heap m x u
  cell : ∀ x c, X.env.cells.lookup x = some c → ∃ v, s.heap.IsCell c v
  free : H X.env.locals = none
  freeC : ∀ x c, X.env.cells.lookup x = some c → H c = none
  pin : ∀ p ∈ X.pn ++ pins, s.heap.get? p.1 = some p.2 ∧ H p.1 = none ∧ p.1 ≠ X.env.locals ∧ p.1 ∉ X.fs ∧ ∀ v, p.2.data ≠ .cell v
  hok : HOk X.prog X.w H s.heap
  len : σ.length = X.N.length

section
variable {X : Cx} {pins : List (Addr × Obj)} {σ : List (Option V)} {H H' : Hp} {s : Shared} {h' : Heap}

theorem Cx.Ok.nofr (ok : X.Ok) {b : Addr} {o : Obj} (e : X.base.get? b = some o) : b ∉ X.fs := fun hb => by
  have := (ok.funs.mem hb).1
  rw [e] at this; cases this
theorem Inv.bs (I : Inv X pins σ H s) : ∀ b o, X.base.get? b = some o → s.heap.get? b = some o ∧ H b = none := fun b o e =>
  ⟨I.base.keep b o (I.ok.bs b o e).1 (I.ok.bs b o e).2 (I.ok.nofr e) (I.ok.noex b o e), I.base.free b o (I.ok.bs b o e).1 (I.ok.bs b o e).2 (I.ok.noex b o e)⟩
theorem Inv.bk (I : Inv X pins σ H s) : ∀ b o, X.base.get? b = some o → s.heap.get? b = some o := fun b o e => (I.bs b o e).1
theorem Inv.mod (I : Inv X pins σ H s) : Mod X.K X.mg X.base := I.ok.mod
theorem Inv.kIn (I : Inv X pins σ H s) : X.K.In s.heap := I.ok.mod.kin.keeps I.bk
theorem Inv.lt (I : Inv X pins σ H s) : X.env.locals < s.heap.objs.size := let ⟨_, hn, _⟩ := I.loc; hn.lt
theorem Inv.sz (I : Inv X pins σ H s) : X.s_0.heap.objs.size ≤ s.heap.objs.size := Nat.le_trans I.ok.above (Nat.le_of_lt I.lt)
theorem Inv.nofs (I : Inv X pins σ H s) {a : Addr} (h : s.heap.objs.size ≤ a) : a ∉ X.fs := fun hb => by
  obtain ⟨_, o, ho, _⟩ := I.ok.funs.mem hb
  exact absurd (Nat.lt_of_lt_of_le (Heap.lt_size ho) (Nat.le_trans I.sz h)) (Nat.lt_irrefl _)
theorem Inv.cne (I : Inv X pins σ H s) : ∀ x c, X.env.cells.lookup x = some c → c ≠ X.env.locals := fun x c e z => by
  obtain ⟨v, o, ho, hd⟩ := I.cell x c e
  obtain ⟨m, ⟨o', es, ep, ho', hd', _⟩, _⟩ := I.loc
  rw [z, ho'] at ho; cases ho; rw [hd'] at hd; cases hd
theorem Inv.funs (I : Inv X pins σ H s) : s.heap.FunFrames X.base X.outer := by
  have all : ∀ (l : List Env), (∀ b ∈ frs l, b ∈ X.fs) → X.s_0.heap.FunFrames X.base l → s.heap.FunFrames X.base l := by
    intro l
    induction l with
    | nil => intro _ _; trivial
    | cons env r ih =>
      intro hs hl
      obtain ⟨hk, ⟨L, o, hf, hn, ho, hd⟩, hr⟩ := hl
      have hL : L ∈ X.fs := hs L (by unfold frs; rw [List.filterMap_cons, hf]; exact List.mem_cons_self)
      obtain ⟨sl, e⟩ := I.base.slot L o ho (I.ok.frf L hL) hL fun z => I.ok.exfs L z hL
      exact ⟨hk, ⟨L, _, hf, hn, e, hd⟩, ih (fun b hb => hs b (by unfold frs; rw [List.filterMap_cons, hf]; exact List.mem_cons_of_mem _ hb)) hr⟩
  exact all X.outer (fun _ hb => hb) I.ok.funs

/-- the frames that run, for a call -/
theorem Inv.stack (I : Inv X pins σ H s) : s.heap.FunFrames X.base X.stack := by
  rcases I.ok.stk with e | ⟨e, hf⟩
  · rw [e]; exact I.funs
  · rw [e]
    obtain ⟨m, hn, _⟩ := I.loc
    refine .cons (by rw [I.ok.kind]; decide) hf hn ?_ I.funs
    exact Heap.get?_none_of_le (Nat.le_trans I.ok.bsz I.ok.above)
theorem Inv.stkSub (I : Inv X pins σ H s) : ∀ b ∈ frs X.stack, b ∈ X.env.locals :: X.fs := fun b hb => by
  rcases I.ok.stk with e | ⟨e, hf⟩
  · rw [e] at hb; exact List.mem_cons_of_mem _ hb
  · rw [e] at hb
    unfold frs at hb
    rw [List.filterMap_cons, hf] at hb
    exact hb
theorem Inv.stkFree (I : Inv X pins σ H s) : ∀ b ∈ frs X.stack, H b = none := fun b hb => by
  rcases List.mem_cons.mp (I.stkSub b hb) with e | hb
  · rw [e]; exact I.free
  · obtain ⟨_, o, ho, _⟩ := I.ok.funs.mem hb
    exact I.base.free b o ho (I.ok.frf b hb) fun z => I.ok.exfs b z hb

/-- THE STEP: the untracked objects but the frame and the records at ch are kept (the callers' frames up to slots), the frame's map is kept, the new abstract heap is held -/
theorem Inv.step {g' : Array GenState} {t' : Nat} {d' : Drawn} {ch : List Addr} (I : Inv X pins σ H s)
    (hch : ∀ b ∈ ch, (b ∈ X.ex ∨ X.s_0.heap.objs.size ≤ b) ∧ b ≠ X.env.locals ∧ (∀ x c, X.env.cells.lookup x = some c → c ≠ b) ∧ ∀ p ∈ X.pn ++ pins, p.1 ≠ b)
    (keep : ∀ b o, b ≠ X.env.locals → b ∉ X.fs → b ∉ ch → s.heap.get? b = some o → H b = none → h'.get? b = some o)
    (slot : ∀ b o, b ≠ X.env.locals → b ∈ X.fs → b ∉ ch → s.heap.get? b = some o → H b = none → ∃ sl, h'.get? b = some { o with slots := sl }) (free : ∀ b o, b ∉ ch → s.heap.get? b = some o → H b = none → H' b = none)
    (there : ∀ b o, b ∉ ch → s.heap.get? b = some o → ∃ o', h'.get? b = some o')
    (tups : ∀ b xs, H b = some (.tup xs) → H' b = some (.tup xs)) (frzs : ∀ b o u, H b = some (.frz o u) → H' b = some (.frz o u)) (tbls : ∀ b ps, H b = some (.tbl ps) → ∃ more, H' b = some (.tbl (ps ++ more)))
    (ns : ∀ m, s.heap.Ns X.env.locals m → h'.Ns X.env.locals m) (hok : HOk X.prog X.w H' h') (hg : AllBare g') :
    Inv X pins σ H' { s with heap := h', gens := g', drawn := d', toks := t' } := by
  have neL : ∀ b o, X.s_0.heap.get? b = some o → b ≠ X.env.locals := fun b o e => Nat.ne_of_lt (Nat.lt_of_lt_of_le (Heap.lt_size e) I.ok.above)
  have neC : ∀ b o, X.s_0.heap.get? b = some o → b ∉ X.ex → b ∉ ch := fun b o e hx hb => by
    rcases (hch b hb).1 with z | z
    · exact hx z
    · exact absurd (Nat.lt_of_lt_of_le (Heap.lt_size e) z) (Nat.lt_irrefl _)
  have cellK : ∀ x c, X.env.cells.lookup x = some c → ∀ v, s.heap.IsCell c v → h'.IsCell c v := fun x c e v ⟨o, ho, hd⟩ => by
    have nch : c ∉ ch := fun z => (hch c z).2.2.1 x c e rfl
    by_cases hc : c ∈ X.fs
    · obtain ⟨sl, q⟩ := slot c o (I.cne x c e) hc nch ho (I.freeC x c e)
      exact ⟨_, q, hd⟩
    · exact ⟨o, keep c o (I.cne x c e) hc nch ho (I.freeC x c e), hd⟩
  refine ⟨I.ok, I.os, hg, ⟨fun b o e n hb hx => ?_, fun b o e n hb hx => ?_, fun b o e n hx => ?_, fun b o e hx => ?_, fun b xs e => tups b xs (I.base.tups b xs e), fun b o xs e => frzs b o xs (I.base.frzs b o xs e), fun b ps e => ?_⟩, ?_, fun x c e => ?_, ?_, fun x c e => ?_, fun p hp => ?_, hok, I.len⟩
  · exact keep b o (neL b o e) hb (neC b o e hx) (I.base.keep b o e n hb hx) (I.base.free b o e n hx)
  · obtain ⟨sl, e1⟩ := I.base.slot b o e n hb hx
    obtain ⟨sl', e2⟩ := slot b _ (neL b o e) hb (neC b o e hx) e1 (I.base.free b o e n hx)
    exact ⟨sl', e2⟩
  · obtain ⟨o', e1⟩ := I.base.there b o e hx
    exact free b o' (neC b o e hx) e1 (I.base.free b o e n hx)
  · obtain ⟨o', e1⟩ := I.base.there b o e hx
    exact there b o' (neC b o e hx) e1
  · obtain ⟨m1, e1⟩ := I.base.tbls b ps e
    obtain ⟨m2, e2⟩ := tbls b _ e1
    exact ⟨m1 ++ m2, by rw [e2, Array.append_assoc]⟩
  · obtain ⟨m, hn, hl⟩ := I.loc
    refine ⟨m, ns m hn, fun i x v e1 e2 e3 => ?_⟩
    obtain ⟨u, r, l⟩ := hl i x v e1 e2 e3
    refine ⟨u, r, ?_⟩
    rcases l with l | ⟨k, c, e, z⟩
    · exact .inl l
    · exact .inr ⟨k, c, e, cellK x c e _ z⟩
  · obtain ⟨v, z⟩ := I.cell x c e
    exact ⟨v, cellK x c e v z⟩
  · obtain ⟨m, ⟨o, _, _, ho, _⟩, _⟩ := I.loc
    exact free _ o (fun z => (hch _ z).2.1 rfl) ho I.free
  · obtain ⟨v, o, ho, hd⟩ := I.cell x c e
    exact free c o (fun z => (hch c z).2.2.1 x c e rfl) ho (I.freeC x c e)
  · obtain ⟨e, n, ne, nf, d⟩ := I.pin p hp
    have nch : p.1 ∉ ch := fun z => (hch p.1 z).2.2.2 p hp rfl
    exact ⟨keep p.1 p.2 ne nf nch e n, free p.1 p.2 nch e n, ne, nf, d⟩
/-- .. where the frame's own object is kept too -/
theorem Inv.un {t' : Nat} (I : Inv X pins σ H s) (u : Un X.fs [] H H' s.heap h') (hok : HOk X.prog X.w H' h') : Inv X pins σ H' { s with heap := h', toks := t' } := by
  obtain ⟨m, ⟨o, es, ep, ho, r⟩, _⟩ := id I.loc
  obtain ⟨sl, hL⟩ := u.any ho I.free (by simp)
  exact I.step (g' := s.gens) (d' := s.drawn) (ch := []) (fun _ z => nomatch z) (fun b o _ hb _ e n => u.keep b o e n hb (by simp)) (fun b o _ hb _ e n => u.slot b o e n hb (by simp)) (fun b o _ e n => u.free b o e n (by simp)) (fun b o _ e => u.there b o e (by simp)) u.tups u.frzs u.tbls (fun m' hm => by
    obtain ⟨o', es', ep', ho', r'⟩ := hm
    rw [ho] at ho'; cases ho'
    exact ⟨_, es', ep', hL, r'⟩) hok I.bare
/-- behind a call (or a comprehension's block): the slots of this frame may have changed too, the records at ch may have turned -/
theorem Inv.call {g' : Array GenState} {t' : Nat} {d' : Drawn} {ch : List Addr} (I : Inv X pins σ H s) (u : Un (frs X.stack) ch H H' s.heap h') (hok : HOk X.prog X.w H' h') (hg : AllBare g')
    (hch : ∀ b ∈ ch, (b ∈ X.ex ∨ X.s_0.heap.objs.size ≤ b) ∧ b ≠ X.env.locals ∧ (∀ x c, X.env.cells.lookup x = some c → c ≠ b) ∧ ∀ p ∈ X.pn ++ pins, p.1 ≠ b) :
    Inv X pins σ H' { s with heap := h', gens := g', drawn := d', toks := t' } := by
  obtain ⟨m, ⟨o, es, ep, ho, r⟩, _⟩ := id I.loc
  obtain ⟨sl, hL⟩ := u.any ho I.free fun z => (hch _ z).2.1 rfl
  exact I.step (ch := ch) hch (fun b o hL hb hc e n => u.keep b o e n (fun z => (List.mem_cons.mp (I.stkSub b z)).elim hL hb) hc) (fun b o _ _ hc e n => u.any e n hc) (fun b o hc e n => u.free b o e n hc) (fun b o hc e => u.there b o e hc) u.tups u.frzs u.tbls (fun m' hm => by
    obtain ⟨o', es', ep', ho', r'⟩ := hm
    rw [ho] at ho'; cases ho'
    exact ⟨_, es', ep', hL, r'⟩) hok hg
/-- an untracked record of ours (an iterator) has turned -/
theorem Inv.turned {t' : Nat} {it : Addr} (I : Inv X pins σ H s) (k : ∀ b o, b ≠ it → s.heap.get? b = some o → h'.get? b = some o) (hn : H it = none) (hL : it ≠ X.env.locals)
    (h1 : it ∈ X.ex ∨ X.s_0.heap.objs.size ≤ it) (h2 : ∀ x c, X.env.cells.lookup x = some c → c ≠ it) (h3 : ∀ p ∈ X.pn ++ pins, p.1 ≠ it) : Inv X pins σ H { s with heap := h', toks := t' } := by
  have nit : ∀ b u, H b = some u → b ≠ it := fun b u e z => by rw [z, hn] at e; cases e
  refine I.step (g' := s.gens) (d' := s.drawn) (ch := [it]) (fun b hb => ?_) (fun b o _ _ hc e _ => k b o (fun z => hc (by simp [z])) e) (fun b o _ _ hc e _ => ⟨o.slots, k b o (fun z => hc (by simp [z])) e⟩) (fun _ _ _ _ n => n)
    (fun b o hc e => ⟨o, k b o (fun z => hc (by simp [z])) e⟩) (fun _ _ e => e) (fun _ _ _ e => e) (fun b ps e => ⟨#[], by rw [e]; simp⟩) (fun m hm => ?_) (fun b u e => ?_) I.bare
  · have e : b = it := by simpa using hb
    subst e
    exact ⟨h1, hL, h2, h3⟩
  · obtain ⟨o, es, ep, ho, r⟩ := hm
    exact ⟨o, es, ep, k _ o (Ne.symm hL) ho, r⟩
  · refine (I.hok b u e).stay (fun c v hc q => k c v ?_ q) (fun _ q => q) fun _ _ q => q
    rcases hc with z | z
    · rw [z]; exact nit b u e
    · exact nit c _ z
theorem Inv.tok (I : Inv X pins σ H s) (t : Nat) : Inv X pins σ H { s with toks := t } := I.un (h' := s.heap) (t' := t) Un.refl I.hok
/-- all objects kept -/
theorem Inv.kept {t' : Nat} (I : Inv X pins σ H s) (k : ∀ b u, s.heap.get? b = some u → h'.get? b = some u) : Inv X pins σ H { s with heap := h', toks := t' } := I.un (Un.kept k) (I.hok.kept k)
/-- a new object laid and tracked -/
theorem Inv.laid {a : Addr} {o : HO} {t' : Nat} (I : Inv X pins σ H s) (k : ∀ b u, s.heap.get? b = some u → h'.get? b = some u) (hp : s.heap.objs.size ≤ a) (new : ObjOk X.prog X.w (upd H a o) h' a o) :
    Inv X pins σ (upd H a o) { s with heap := h', toks := t' } := I.un (Un.laid k hp (I.hok.fresh hp)) (I.hok.laid k hp new)
/-- an object written -/
theorem Inv.write {x e : Addr} {o : HO} {t' : Nat} (I : Inv X pins σ H s) (mu : Mut (H x)) (he : e = x ∨ H e = some (.own x)) (k : ∀ b u, b ≠ e → s.heap.get? b = some u → h'.get? b = some u) (heo : ∃ u, h'.get? e = some u)
    (new : ObjOk X.prog X.w (upd H x o) h' x o) : Inv X pins σ (upd H x o) { s with heap := h', toks := t' } := I.un (Un.write mu he k heo) (I.hok.write mu he k heo new)
/-- forgetting slots, pins -/
theorem Inv.weak {σ' : List (Option V)} (I : Inv X pins σ H s) (hl : σ'.length = σ.length) (w : ∀ (i : Nat) v, σ'[i]? = some (some v) → σ[i]? = some (some v)) : Inv X pins σ' H s :=
  ⟨I.ok, I.os, I.bare, I.base, let ⟨m, hn, hl'⟩ := I.loc; ⟨m, hn, fun i x v e1 e2 e3 => hl' i x v e1 (w i v e2) e3⟩, I.cell, I.free, I.freeC, I.pin, I.hok, hl.trans I.len⟩
theorem Inv.pins_of {pins' : List (Addr × Obj)} (I : Inv X pins σ H s) (h : ∀ p ∈ pins', s.heap.get? p.1 = some p.2 ∧ H p.1 = none ∧ p.1 ≠ X.env.locals ∧ p.1 ∉ X.fs ∧ ∀ v, p.2.data ≠ .cell v) : Inv X pins' σ H s :=
  ⟨I.ok, I.os, I.bare, I.base, I.loc, I.cell, I.free, I.freeC, fun p hp => (List.mem_append.mp hp).elim (fun z => I.pin p (List.mem_append_left _ z)) (h p), I.hok, I.len⟩

theorem nodup_ix {N : List Str} (hN : N.Nodup) {i j : Nat} {x : Str} (a : N[i]? = some x) (b : N[j]? = some x) : i = j := by
  obtain ⟨h1, e1⟩ := List.getElem?_eq_some_iff.mp a
  obtain ⟨h2, e2⟩ := List.getElem?_eq_some_iff.mp b
  exact (List.getElem_inj hN).mp (e1.trans e2.symm)

/-- a name is stored; what changed -/
theorem store_ok2 {M : Model} {A : Around} {E : Value → Shared → Prop} {i : Nat} {x : Str} {v : V} {u : Value} {Q : Unit → Shared → Prop} (I : Inv X pins σ H s) (hN : X.N.Nodup) (hi : X.N[i]? = some x) (hx : Loc X.env.scope x) (r : RelV v u)
    (h : ∀ s', Inv X pins (σ.set i (some v)) H s' → (∃ a, Heap.SameBut a s.heap s'.heap ∧ (a = X.env.locals ∨ X.env.cells.lookup x = some a)) → Q () s') (hf : X.fn x = true ∨ X.env.scope.names.lookup x = some .local := by first | exact .inl rfl | exact .inr rfl | assumption) : wpAny M A (storeName X.env x u) Q E s := by
  obtain ⟨m, hn, hl⟩ := id I.loc
  have hcls : (X.env.scope.kind == .class || (X.env.scope.kind == .module && X.env.locals != X.env.globals)) = false := by rw [I.ok.kind]; rfl
  have hiσ : i < σ.length := by rw [I.len]; exact (List.getElem?_eq_some_iff.mp hi).1
  have cne := I.cne
  have tracked : ∀ {a : Addr} {h' : Heap}, (∃ o, s.heap.get? a = some o ∧ H a = none) → Heap.SameBut a s.heap h' → HOk X.prog X.w H h' := fun {a h'} ha hs b ob e => by
    obtain ⟨_, _, hfree⟩ := ha
    refine (I.hok b ob e).stay (fun c w' hc q => (hs.2 c ?_).trans q) (fun _ q => q) fun _ _ q => q
    rintro rfl
    rcases hc with rfl | hc
    · rw [hfree] at e; cases e
    · rw [hfree] at hc; cases hc
  rcases hx with hk | hk
  · refine wpAny_storeName_local hk hn (fun h' hn' hs => ?_) hcls
    obtain ⟨oL, _, _, hoL, _⟩ := id hn
    refine h _ ⟨I.ok, I.os, I.bare, ⟨fun b o e n hb hx => ?_, fun b o e n hb hx => ?_, I.base.free, fun b o e hx => ?_, I.base.tups, I.base.frzs, I.base.tbls⟩, ⟨_, hn', fun j y v' e1 e2 e3 => ?_⟩, fun y c e => ?_, I.free, I.freeC, fun p hp => ?_, tracked ⟨oL, hoL, I.free⟩ hs, by simpa using I.len⟩ ⟨_, hs, .inl rfl⟩
    · exact (hs.2 b (Nat.ne_of_lt (Nat.lt_of_lt_of_le (Heap.lt_size e) I.ok.above))).trans (I.base.keep b o e n hb hx)
    · obtain ⟨sl, e1⟩ := I.base.slot b o e n hb hx
      exact ⟨sl, (hs.2 b (Nat.ne_of_lt (Nat.lt_of_lt_of_le (Heap.lt_size e) I.ok.above))).trans e1⟩
    · obtain ⟨o', e1⟩ := I.base.there b o e hx
      exact ⟨o', (hs.2 b (Nat.ne_of_lt (Nat.lt_of_lt_of_le (Heap.lt_size e) I.ok.above))).trans e1⟩
    · by_cases hj : j = i
      · subst hj
        rw [hi] at e1; cases e1
        rw [List.getElem?_set_self hiσ] at e2
        cases e2
        exact ⟨u, r, .inl ⟨hk, by simp⟩⟩
      · rw [List.getElem?_set_ne (Ne.symm hj)] at e2
        obtain ⟨u', r', q⟩ := hl j y v' e1 e2 e3
        refine ⟨u', r', ?_⟩
        rcases q with ⟨k, e⟩ | ⟨k, c, e, z⟩
        · refine .inl ⟨k, ?_⟩
          have : y ≠ x := fun e => hj (nodup_ix hN e1 (e ▸ hi))
          simp [this, e]
        · exact .inr ⟨k, c, e, z.sameBut hs (cne y c e)⟩
    · obtain ⟨w', z⟩ := I.cell y c e
      exact ⟨w', z.sameBut hs (cne y c e)⟩
    · obtain ⟨e, n, ne, nf, d⟩ := I.pin p hp
      exact ⟨(hs.2 p.1 ne).trans e, n, ne, nf, d⟩
  · have hfn : X.fn x = true := by
      rcases hf with z | z
      · exact z
      · rw [z] at hk; cases hk
    obtain ⟨c, hc⟩ := I.ok.has x (.inl hk)
    obtain ⟨w', z⟩ := I.cell x c hc
    refine wpAny_storeName_cell I.ok.kind hk hc z (fun h' hc' hs => ?_)
    obtain ⟨oc, hoc, hocd⟩ := id z
    refine h { s with heap := h' } ⟨I.ok, I.os, I.bare, ⟨fun b o e n hb hx => ?_, fun b o e n hb hx => ?_, I.base.free, fun b o e hx => ?_, I.base.tups, I.base.frzs, I.base.tbls⟩, ⟨m, hn.sameBut hs (Ne.symm (cne x c hc)), fun j y v' e1 e2 e3 => ?_⟩, fun y c' e => ?_, I.free, I.freeC, fun p hp => ?_, tracked ⟨oc, hoc, I.freeC x c hc⟩ hs, by simpa using I.len⟩ ⟨c, hs, .inr hc⟩
    · exact (hs.2 b (Nat.ne_of_lt (Nat.lt_of_lt_of_le (Heap.lt_size e) (I.ok.cab x c hfn hc)))).trans (I.base.keep b o e n hb hx)
    · obtain ⟨sl, e1⟩ := I.base.slot b o e n hb hx
      exact ⟨sl, (hs.2 b (Nat.ne_of_lt (Nat.lt_of_lt_of_le (Heap.lt_size e) (I.ok.cab x c hfn hc)))).trans e1⟩
    · obtain ⟨o', e1⟩ := I.base.there b o e hx
      exact ⟨o', (hs.2 b (Nat.ne_of_lt (Nat.lt_of_lt_of_le (Heap.lt_size e) (I.ok.cab x c hfn hc)))).trans e1⟩
    · by_cases hj : j = i
      · subst hj
        rw [hi] at e1; cases e1
        rw [List.getElem?_set_self hiσ] at e2
        cases e2
        exact ⟨u, r, .inr ⟨.inl hk, c, hc, hc'⟩⟩
      · rw [List.getElem?_set_ne (Ne.symm hj)] at e2
        obtain ⟨u', r', q⟩ := hl j y v' e1 e2 e3
        refine ⟨u', r', ?_⟩
        rcases q with q | ⟨k, c', e, z'⟩
        · exact .inl q
        · refine .inr ⟨k, c', e, z'.sameBut hs ?_⟩
          rintro rfl
          exact hj (nodup_ix hN e1 (I.ok.inj _ _ _ e hc ▸ hi))
    · by_cases hcc : c' = c
      · subst hcc; exact ⟨_, hc'⟩
      · obtain ⟨w2, z2⟩ := I.cell y c' e
        exact ⟨w2, z2.sameBut hs hcc⟩
    · obtain ⟨e, n, ne, nf, d⟩ := I.pin p hp
      refine ⟨(hs.2 p.1 ?_).trans e, n, ne, nf, d⟩
      intro q
      rw [q, hoc] at e
      have q' : oc = p.2 := Option.some.inj e
      exact d w' (by rw [← q']; exact hocd)
theorem store_ok {M : Model} {A : Around} {E : Value → Shared → Prop} {i : Nat} {x : Str} {v : V} {u : Value} {Q : Unit → Shared → Prop} (I : Inv X pins σ H s) (hN : X.N.Nodup) (hi : X.N[i]? = some x) (hx : Loc X.env.scope x) (r : RelV v u)
    (h : ∀ s', Inv X pins (σ.set i (some v)) H s' → Q () s') (hf : X.fn x = true ∨ X.env.scope.names.lookup x = some .local := by first | exact .inl rfl | exact .inr rfl | assumption) : wpAny M A (storeName X.env x u) Q E s :=
  store_ok2 I hN hi hx r (fun s' I' _ => h s' I') hf
/-- behind a call or a block, the state as it is -/
theorem Inv.call' {s' : Shared} {ch : List Addr} (I : Inv X pins σ H s) (ho : s'.os = s.os) (u : Un (frs X.stack) ch H H' s.heap s'.heap) (hok : HOk X.prog X.w H' s'.heap) (hg : AllBare s'.gens)
    (hch : ∀ b ∈ ch, (b ∈ X.ex ∨ X.s_0.heap.objs.size ≤ b) ∧ b ≠ X.env.locals ∧ (∀ x c, X.env.cells.lookup x = some c → c ≠ b) ∧ ∀ p ∈ X.pn ++ pins, p.1 ≠ b) : Inv X pins σ H' s' := by
  obtain ⟨h', g', d', t', o'⟩ := s'
  have e : o' = s.os := ho
  subst e
  exact I.call (g' := g') (t' := t') (d' := d') u hok hg hch
end

/-! ### the judgements -/
/-- an exception: its class, its own dict's address (where it has one), the abstract heap behind it -/
abbrev XK := Value → Option Addr → Hp → Prop
abbrev St := List (Option V)
abbrev VK := V → Hp → Prop
/-- an expression's reading; a test's; an argument list's -/
abbrev TE := St → Hp → VK → Prop
abbrev TT := St → Hp → (Bool → Hp → Prop) → Prop
abbrev TA := St → Hp → (List V → Hp → Prop) → Prop
/-- what is wanted behind a statement -/
structure Ends where
  nx : St → Hp → Prop
  rt : VK
  bk : St → Hp → Prop := fun _ _ => False
  ct : St → Hp → Prop := fun _ _ => False
abbrev TS := Ends → St → Hp → Prop

def EP (X : Cx) (pins : List (Addr × Obj)) (σ : St) (Q : VK) (u : Value) (s' : Shared) : Prop := ∃ v H', Inv X pins σ H' s' ∧ RelV v u ∧ Q v H'
def TP (X : Cx) (pins : List (Addr × Obj)) (σ : St) (Q : Bool → Hp → Prop) (b : Bool) (s' : Shared) : Prop := ∃ H', Inv X pins σ H' s' ∧ Q b H'
def AP (X : Cx) (pins : List (Addr × Obj)) (σ : St) (Q : List V → Hp → Prop) (us : List Value) (s' : Shared) : Prop := ∃ vs H', Inv X pins σ H' s' ∧ Vals vs us ∧ Q vs H'
def SP (X : Cx) (pins : List (Addr × Obj)) (D : Ends) (f : Flow) (s' : Shared) : Prop :=
  match f with
  | .next => ∃ σ' H', Inv X pins σ' H' s' ∧ D.nx σ' H'
  | .brk => ∃ σ' H', Inv X pins σ' H' s' ∧ D.bk σ' H'
  | .cont => ∃ σ' H', Inv X pins σ' H' s' ∧ D.ct σ' H'
  | .ret u => ∃ v σ' H', Inv X pins σ' H' s' ∧ RelV v u ∧ D.rt v H'

def PE (X : Cx) (e : Expr) (t : TE) : Prop :=
  ∀ (pins : List (Addr × Obj)) (s : Shared) (σ : St) (H : Hp) (Q : VK), Inv X pins σ H s → t σ H Q → wpAny (model X.prog X.w) X.A (eval e X.env) (EP X pins σ Q) X.xe s
def PT (X : Cx) (e : Expr) (t : TT) : Prop :=
  ∀ (pins : List (Addr × Obj)) (s : Shared) (σ : St) (H : Hp) (Q : Bool → Hp → Prop), Inv X pins σ H s → t σ H Q → wpAny (model X.prog X.w) X.A (isTrue e X.env (eval e X.env)) (TP X pins σ Q) X.xe s
/-- a test whatever its 'whole' is (and, or) -/
def PW (X : Cx) (e : Expr) (t : TT) : Prop :=
  ∀ (whole : Sem Value) (pins : List (Addr × Obj)) (s : Shared) (σ : St) (H : Hp) (Q : Bool → Hp → Prop), Inv X pins σ H s → t σ H Q → wpAny (model X.prog X.w) X.A (isTrue e X.env whole) (TP X pins σ Q) X.xe s
theorem PW.pt {X : Cx} {e : Expr} {t : TT} (h : PW X e t) : PT X e t := h _
/-- an argument list (no star), from the left -/
def PA (X : Cx) (es : List Expr) (t : TA) : Prop :=
  ∀ (pos : Pos) (pins : List (Addr × Obj)) (s : Shared) (σ : St) (H : Hp) (Q : List V → Hp → Prop), Inv X pins σ H s → t σ H Q → wpAny (model X.prog X.w) X.A (spliced (backTo pos (starEach es X.env))) (AP X pins σ Q) X.xe s
def PS (X : Cx) (st : Stmt) (t : TS) : Prop :=
  ∀ (pins : List (Addr × Obj)) (s : Shared) (σ : St) (H : Hp) (D : Ends), Inv X pins σ H s → t D σ H → wpAny (model X.prog X.w) X.A (exec st X.env) (SP X pins D) X.xe s
def PSs (X : Cx) (st : List Stmt) (t : TS) : Prop :=
  ∀ (pins : List (Addr × Obj)) (s : Shared) (σ : St) (H : Hp) (D : Ends), Inv X pins σ H s → t D σ H → wpAny (model X.prog X.w) X.A (execs st X.env) (SP X pins D) X.xe s
/-- weaken the end -/
theorem thn {α : Type} {t : Sem α} {Q Q' : α → Shared → Prop} {M : Model} {A : Around} {E : Value → Shared → Prop} {s : Shared} (h : wpAny M A t Q E s) (hQ : ∀ a s, Q a s → Q' a s) : wpAny M A t Q' E s := wpAny_mono h hQ fun _ _ x => x
end L2

namespace L2
open PySem PySem.Spec PyProof.Rows
section
variable {X : Cx}


/-! ### names and constants -/
def tVar (i : Nat) : TE := fun σ H Q => ∃ v, σ[i]? = some (some v) ∧ Q v H
def tC (v : V) : TE := fun _ H Q => Q v H
theorem pe_var {i : Nat} {x : Str} {pos : Pos} (hN : X.N[i]? = some x) (hv : Vis X.env.scope x) (hd : (x == ("__debug__" : Str)) = false := by decide) (hcd : (x == ("__classdict__" : Str)) = false := by decide) : PE X (.Name x pos) (tVar i) := by
  intro pins s σ H Q I h
  obtain ⟨v, e, h⟩ := h
  obtain ⟨m, hn, hl⟩ := I.loc
  obtain ⟨u, r, l⟩ := hl i x v hN e hv
  have fin : EP X pins σ Q u s := ⟨v, H, I, r, h⟩
  rcases l with ⟨hk, hm⟩ | ⟨hk, c, hc, hcell⟩
  · exact wpAny_Name (wpAny_loadName_local I.ok.kind hk hn hm fin) hd
  · rcases hk with hk | hk
    · exact wpAny_Name (wpAny_loadName_cell I.ok.kind hk hc hcell fin) hd
    · exact wpAny_Name (wpAny_loadName_free I.ok.kind hk hc hcell fin hcd) hd
theorem pe_int {i j pos} : PE X (.Constant (.int i) j pos) (tC (.int i)) := fun _ _ _ H _ I h => wpAny_Constant_int ⟨.int i, H, I.tok _, ⟨_, rfl⟩, h⟩
theorem pe_bl {b j pos} : PE X (.Constant (.bool b) j pos) (tC (.bl b)) := fun _ _ _ H _ I h => Constant_bool ⟨.bl b, H, I, rfl, h⟩
theorem pe_non {j pos} : PE X (.Constant .none j pos) (tC .non) := fun _ _ _ H _ I h => Constant_none ⟨.non, H, I, rfl, h⟩
theorem pe_str {x j pos} : PE X (.Constant (.str x) j pos) (tC (.str x)) := fun _ _ _ H _ I h => Calls.Constant_str ⟨.str x, H, I.tok _, ⟨_, rfl⟩, h⟩

/-- a global name of the def -/
def Gl (X : Cx) (x : Str) : Prop := X.env.kindOf x = some .globalImplicit
theorem ld_glob {E : Value → Shared → Prop} {pins : List (Addr × Obj)} {s : Shared} {σ : St} {H : Hp} {x : Str} {u : Value} {pos : Pos} {Q : Value → Shared → Prop} (I : Inv X pins σ H s) (hg : Gl X x) (hm : X.mg x = some u) (h : Q u s)
    (hd : (x == ("__debug__" : Str)) = false := by decide) : wpAny (model X.prog X.w) X.A (eval (.Name x pos) X.env) Q E s :=
  Calls.Name_function_global I.ok.kind hg (Calls.loadGlobal_global (by rw [I.ok.glob]; exact I.mod.glob.keeps I.bk) hm h) hd
theorem ld_blt {E : Value → Shared → Prop} {pins : List (Addr × Obj)} {s : Shared} {σ : St} {H : Hp} {x : Str} {u : Value} {pos : Pos} {Q : Value → Shared → Prop} (I : Inv X pins σ H s) (hg : Gl X x) (hm : X.mg x = none) (hv : bootBuiltins x = some u) (h : Q u s)
    (hn : x ≠ "__name__" := by decide) (hd : (x == ("__debug__" : Str)) = false := by decide) : wpAny (model X.prog X.w) X.A (eval (.Name x pos) X.env) Q E s := by
  obtain ⟨mb, h1, h2⟩ := I.mod.blt
  exact Calls.Name_function_global I.ok.kind hg (Calls.loadGlobal_builtin (by rw [I.ok.glob]; exact I.mod.glob.keeps I.bk) hm (by rw [I.ok.blt]; exact h1.keeps I.bk) ((h2 x hn).trans hv) h) hd
/-- a module's constant, a class, a function, as a value -/
theorem pe_glob {x : Str} {v : V} {u : Value} {pos : Pos} (hg : Gl X x) (hm : X.mg x = some u) (r : RelV v u) (hd : (x == ("__debug__" : Str)) = false := by decide) : PE X (.Name x pos) (tC v) :=
  fun _ _ _ H _ I h => ld_glob I hg hm ⟨v, H, I, r, h⟩ hd

/-! ### arithmetic -/
variable {a b : Expr} {ta tb : TE} {pos : Pos}

/-! ### comparisons -/
def PC (X : Cx) (op : CmpOp) (a b : Expr) (t : TE) : Prop :=
  ∀ (pins : List (Addr × Obj)) (s : Shared) (σ : St) (H : Hp) (Q : VK), Inv X pins σ H s → t σ H Q →
    wpAny (model X.prog X.w) X.A (eval a X.env) (fun v s₁ => wpAny (model X.prog X.w) X.A (eval b X.env) (fun u s₂ => wpAny (model X.prog X.w) X.A (compareOp op v u) (EP X pins σ Q) X.xe s₂) X.xe s₁) X.xe s
theorem nobehind (b : Expr) {op : CmpOp} (h : op ≠ .In) (h2 : op ≠ .NotIn) : behindInMarks op b = false := by
  have e1 : (op == CmpOp.In) = false := by cases op <;> first | rfl | exact absurd rfl h
  have e2 : (op == CmpOp.NotIn) = false := by cases op <;> first | rfl | exact absurd rfl h2
  cases b <;> simp [behindInMarks, e1, e2]
/-- is None -/
def tIsN (ta : TE) : TE := fun σ H Q => ta σ H fun x H1 => Q (.bl (decide (x = .non))) H1
theorem RelV.none_iff {x : V} {v : Value} (r : RelV x v) : (v == Value.none) = decide (x = .non) := by
  cases x with
  | non => cases r; rfl
  | bl _ => cases r; rfl
  | int _ => obtain ⟨t, rfl⟩ := r; rfl
  | str _ => obtain ⟨t, rfl⟩ := r; rfl
  | byt _ => obtain ⟨t, rfl⟩ := r; rfl
  | flt _ => obtain ⟨t, rfl⟩ := r; rfl
  | ref _ => cases r; rfl
  | ty _ => cases r; rfl
theorem pc_isN {j pos'} (ha : PE X a ta) : PC X .Is a (.Constant .none j pos') (tIsN ta) := by
  intro pins s σ H Q I h
  refine thn (ha pins s σ H _ I h) fun v s1 ⟨x, H1, I1, r1, q1⟩ => ?_
  exact Constant_none (is_none_gen ⟨.bl _, H1, I1, by rw [r1.none_iff]; rfl, q1⟩)
/-- a comparison as a value, as a test -/
def tB (t : TE) : TT := fun σ H Q => t σ H fun x H1 => ∃ c, x = .bl c ∧ Q c H1
theorem pt_cmp {op : CmpOp} {t : TE} (h : PC X op a b t) (h1 : behindInMarks op b = false := by first | exact nobehind _ (by decide) (by decide) | rfl) : PT X (.Compare a [op] [b] pos) (tB t) := by
  intro pins s σ H Q I hw
  refine wpAny_isTrue_Compare1 (thn (h pins s σ H _ I hw) fun v s1 h1 => thn h1 fun u s2 h2 => thn h2 fun c s3 ⟨x, H1, I1, r1, q1⟩ => ?_) h1
  obtain ⟨d, rfl, q⟩ := q1
  cases r1
  exact wpAny_truthy_bool ⟨H1, I1, q⟩
/-- an expression whose value is a bool, as a test -/
theorem pt_val {e : Expr} {t : TE} (h : PE X e t) (he : ∀ whole, isTrue e X.env whole = (do let v ← whole; standAt e.pos; holding [v] (truthy v)) := by intro _; rfl) : PT X e (tB t) := by
  intro pins s σ H Q I hw
  refine isTrue_plain (thn (h pins s σ H _ I hw) fun v s1 ⟨x, H1, I1, r1, q1⟩ => ?_) (he _)
  obtain ⟨d, rfl, q⟩ := q1
  cases r1
  exact wpAny_truthy_bool ⟨H1, I1, q⟩

/-! ### and, or, not -/
variable {tA tB' : TT} {rest : List Expr}
def tAnd (t u : TT) : TT := fun σ H Q => t σ H fun c H1 => if c = true then u σ H1 Q else Q false H1
def tOr (t u : TT) : TT := fun σ H Q => t σ H fun c H1 => if c = true then Q true H1 else u σ H1 Q
def tNot (t : TT) : TT := fun σ H Q => t σ H fun c H1 => Q (!c) H1
theorem pw_and1 (ha : PT X a tA) : PW X (.BoolOp .And [a] pos) tA := by
  intro wh pins s σ H Q I h
  refine isTrue_and (thn (ha pins s σ H Q I h) fun c s1 e => ?_)
  cases c with
  | true => exact isTrue_and_nil e
  | false => exact e
theorem pw_or1 (ha : PT X a tA) : PW X (.BoolOp .Or [a] pos) tA := by
  intro wh pins s σ H Q I h
  refine isTrue_or (thn (ha pins s σ H Q I h) fun c s1 e => ?_)
  cases c with
  | false => exact isTrue_or_nil e
  | true => exact e
theorem pw_and (ha : PT X a tA) (hb : PW X (.BoolOp .And (b :: rest) pos) tB') : PW X (.BoolOp .And (a :: b :: rest) pos) (tAnd tA tB') := by
  intro wh pins s σ H Q I h
  refine isTrue_and (thn (ha pins s σ H _ I h) fun c s1 ⟨H1, I1, q1⟩ => ?_)
  cases c with
  | true => exact hb wh pins s1 σ H1 Q I1 q1
  | false => exact ⟨H1, I1, q1⟩
theorem pw_or (ha : PT X a tA) (hb : PW X (.BoolOp .Or (b :: rest) pos) tB') : PW X (.BoolOp .Or (a :: b :: rest) pos) (tOr tA tB') := by
  intro wh pins s σ H Q I h
  refine isTrue_or (thn (ha pins s σ H _ I h) fun c s1 ⟨H1, I1, q1⟩ => ?_)
  cases c with
  | true => exact ⟨H1, I1, q1⟩
  | false => exact hb wh pins s1 σ H1 Q I1 q1
theorem pt_not (ha : PT X a tA) : PT X (.UnaryOp .Not a pos) (tNot tA) := by
  intro pins s σ H Q I h
  exact isTrue_not (ha pins s σ H (fun c H1 => Q (!c) H1) I h)
/-- a if t else b -/
def tIf (t : TT) (ta tb : TE) : TE := fun σ H Q => t σ H fun c H1 => if c = true then ta σ H1 Q else tb σ H1 Q
theorem pe_ifExp {c : Expr} (hc : PT X c tA) (ha : PE X a ta) (hb : PE X b tb) : PE X (.IfExp c a b pos) (tIf tA ta tb) := by
  intro pins s σ H Q I h
  refine wpAny_IfExp (thn (hc pins s σ H _ I h) fun d s1 ⟨H1, I1, q1⟩ => ?_)
  cases d with
  | true => exact ha pins s1 σ H1 Q I1 q1
  | false => exact hb pins s1 σ H1 Q I1 q1
end
end L2

namespace L2
open PySem PySem.Spec PyProof.Rows

/-! ### a list, a tuple that is read: tracked, frozen, or an object of the module -/
def SqL (K : PySem.W.Frag) (H : Hp) (a : Addr) (xs : List V) : Prop :=
  Rd H a (.lst xs) ∨
    ∃ (o : Obj) (its : Array Value) (n : Nat), K.lookup a = some o ∧ o.cls = .type "list" ∧ o.dict = none ∧ o.data = .seq its n ∧ its.size ≤ sizeLine ∧ Vals xs its.toList
def SqT (K : PySem.W.Frag) (H : Hp) (a : Addr) (xs : List V) : Prop :=
  Rd H a (.tup xs) ∨
    ∃ (o : Obj) (its : Array Value) (n : Nat), K.lookup a = some o ∧ o.cls = .type "tuple" ∧ o.data = .seq its n ∧ its.size ≤ sizeLine ∧ Vals xs its.toList
def absV : Value → Option V
  | .none => some .non
  | .bool b => some (.bl b)
  | .int i _ => some (.int i)
  | .str x _ => some (.str x)
  | .bytes b _ => some (.byt b)
  | .float b _ => some (.flt b)
  | .ref a => some (.ref a)
  | .type n => some (.ty n)
  | _ => none
theorem RelV.abs {x : V} {u : Value} (r : RelV x u) : absV u = some x := by
  cases x with
  | non => cases r; rfl
  | bl _ => cases r; rfl
  | int _ => obtain ⟨t, rfl⟩ := r; rfl
  | str _ => obtain ⟨t, rfl⟩ := r; rfl
  | byt _ => obtain ⟨t, rfl⟩ := r; rfl
  | flt _ => obtain ⟨t, rfl⟩ := r; rfl
  | ref _ => cases r; rfl
  | ty _ => cases r; rfl
theorem RelV.inj {x y : V} {u : Value} (r : RelV x u) (q : RelV y u) : x = y := Option.some.inj (r.abs.symm.trans q.abs)
theorem Vals.inj : ∀ {xs ys : List V} {us : List Value}, Vals xs us → Vals ys us → xs = ys
  | _, _, _, .nil, .nil => rfl
  | _, _, _, .cons r t, .cons r' t' => by rw [r.inj r', Vals.inj t t']
section
variable {X : Cx} {pins : List (Addr × Obj)} {σ : St} {H : Hp} {s : Shared} {a : Addr} {xs ys : List V}
theorem SqL.of {K : PySem.W.Frag} (h : H a = some (.lst xs)) : SqL K H a xs := .inl (.inl h)
theorem SqT.of {K : PySem.W.Frag} (h : H a = some (.tup xs)) : SqT K H a xs := .inl (.inl h)
theorem Inv.list (I : Inv X pins σ H s) (h : SqL X.K H a xs) : ∃ its : List Value, Vals xs its ∧ PlainL s.heap a its.toArray ∧ xs.length ≤ sizeLine := by
  rcases h with h | ⟨o, its, n, hk, hc, hd, hs, hz, r⟩
  · obtain ⟨z, its, n, r, e⟩ := h.ok I.hok
    exact ⟨its, r, ⟨_, n, e, rfl, rfl, rfl⟩, z⟩
  · refine ⟨its.toList, r, ⟨o, n, I.kIn a o hk, hc, hd, by simpa using hs⟩, ?_⟩
    have e := r.length
    simp only [Array.length_toList] at e
    omega
theorem Inv.tuple (I : Inv X pins σ H s) (h : SqT X.K H a xs) : ∃ its : List Value, Vals xs its ∧ IsTup s.heap a its.toArray ∧ xs.length ≤ sizeLine := by
  rcases h with h | ⟨o, its, n, hk, hc, hs, hz, r⟩
  · obtain ⟨z, its, r, p⟩ := h.ok I.hok
    exact ⟨its, r, p, z⟩
  · refine ⟨its.toList, r, ⟨o, I.kIn a o hk, hc, n, by simpa using hs⟩, ?_⟩
    have e := r.length
    simp only [Array.length_toList] at e
    omega
theorem Inv.list_inj (I : Inv X pins σ H s) (h : SqL X.K H a xs) (h' : SqL X.K H a ys) : xs = ys := by
  obtain ⟨its, r, ⟨o, n, e, _, _, d⟩, _⟩ := I.list h
  obtain ⟨its', r', ⟨o', n', e', _, _, d'⟩, _⟩ := I.list h'
  rw [e] at e'; cases e'
  rw [d] at d'
  injection d' with d1 _
  have : its = its' := by simpa using congrArg Array.toList d1
  subst this
  exact r.inj r'
theorem Inv.tuple_inj (I : Inv X pins σ H s) (h : SqT X.K H a xs) (h' : SqT X.K H a ys) : xs = ys := by
  obtain ⟨its, r, ⟨o, e, _, n, d⟩, _⟩ := I.tuple h
  obtain ⟨its', r', ⟨o', e', _, n', d'⟩, _⟩ := I.tuple h'
  rw [e] at e'; cases e'
  rw [d] at d'
  injection d' with d1 _
  have : its = its' := by simpa using congrArg Array.toList d1
  subst this
  exact r.inj r'
end

/-! ### another wish about exceptions -/
abbrev Cx.wish (X : Cx) (E : Value → Shared → Prop) : Cx := { X with xe := E }
/-- no exception leaves -/
abbrev Cx.nox (X : Cx) : Cx := X.wish fun _ _ => False
theorem Cx.Ok.wish {X : Cx} (ok : X.Ok) (E : Value → Shared → Prop) : (X.wish E).Ok :=
  ⟨ok.mod, ok.kind, ok.glob, ok.blt, ok.above, ok.inj, ok.has, ok.cab, ok.hd, ok.frames, ok.stk, ok.exf, ok.bs, ok.bsz, ok.noex, ok.exfs, ok.funs, ok.frf⟩
theorem Cx.Ok.unwish {X : Cx} {E : Value → Shared → Prop} (ok : (X.wish E).Ok) : X.Ok :=
  ⟨ok.mod, ok.kind, ok.glob, ok.blt, ok.above, ok.inj, ok.has, ok.cab, ok.hd, ok.frames, ok.stk, ok.exf, ok.bs, ok.bsz, ok.noex, ok.exfs, ok.funs, ok.frf⟩
section
variable {X : Cx} {pins : List (Addr × Obj)} {σ : St} {H : Hp} {s : Shared} {E : Value → Shared → Prop}
theorem Inv.wish (I : Inv X pins σ H s) (E : Value → Shared → Prop) : Inv (X.wish E) pins σ H s := ⟨I.ok.wish E, I.os, I.bare, I.base, I.loc, I.cell, I.free, I.freeC, I.pin, I.hok, I.len⟩
theorem Inv.unwish (I : Inv (X.wish E) pins σ H s) : Inv X pins σ H s := ⟨I.ok.unwish, I.os, I.bare, I.base, I.loc, I.cell, I.free, I.freeC, I.pin, I.hok, I.len⟩
theorem SP.unwish {D : Ends} {f : Flow} {s' : Shared} (h : SP (X.wish E) pins D f s') : SP X pins D f s' := by
  cases f with
  | next => obtain ⟨σ', H', I, q⟩ := h; exact ⟨σ', H', I.unwish, q⟩
  | brk => obtain ⟨σ', H', I, q⟩ := h; exact ⟨σ', H', I.unwish, q⟩
  | cont => obtain ⟨σ', H', I, q⟩ := h; exact ⟨σ', H', I.unwish, q⟩
  | ret u => obtain ⟨v, σ', H', I, r, q⟩ := h; exact ⟨v, σ', H', I.unwish, r, q⟩
theorem PSs.nox {st : List Stmt} {t : TS} (h : PSs X.nox st t) : PSs X st t := fun pins s σ H D I hw =>
  wpAny_mono (h pins s σ H D (I.wish _) hw) (fun _ _ q => q.unwish) fun _ _ z => False.elim z
end

/-! ### blocks and small statements -/
section
variable {X : Cx} {st : Stmt} {rest : List Stmt} {t u : TS} {e : Expr} {te : TE} {pos : Pos}
def tNext : TS := fun D σ H => D.nx σ H
def tSeq (t u : TS) : TS := fun D σ H => t { D with nx := u D } σ H
theorem pss_nil : PSs X [] tNext := fun _ _ σ H _ I h => wpAny_execs_nil ⟨σ, H, I, h⟩
theorem pss_cons (h1 : PS X st t) (h2 : PSs X rest u) : PSs X (st :: rest) (tSeq t u) := by
  intro pins s σ H D I h
  refine wpAny_execs_cons (thn (h1 pins s σ H { D with nx := u D } I h) fun f s1 q => ?_)
  cases f with
  | next =>
    obtain ⟨σ', H', I', q⟩ := q
    exact h2 pins s1 σ' H' D I' q
  | ret v => exact q
  | brk => exact q
  | cont => exact q
theorem pss_one (h1 : PS X st t) : PSs X [st] t := by
  intro pins s σ H D I h
  refine wpAny_execs_cons (thn (h1 pins s σ H D I h) fun f s1 q => ?_)
  cases f with
  | next => exact wpAny_execs_nil q
  | ret v => exact q
  | brk => exact q
  | cont => exact q
def tBreak : TS := fun D σ H => D.bk σ H
def tCont : TS := fun D σ H => D.ct σ H
theorem ps_break : PS X (.Break pos) tBreak := fun _ _ σ H _ I h => wpAny_Break ⟨σ, H, I, h⟩
theorem ps_continue : PS X (.Continue pos) tCont := fun _ _ σ H _ I h => wpAny_Continue ⟨σ, H, I, h⟩
/-- in a def's body nothing is shown -/
theorem Inv.quiet {pins : List (Addr × Obj)} {σ : St} {H : Hp} {s : Shared} (I : Inv X pins σ H s) : interactive X.env = false := by simp [interactive, I.ok.kind]
/-- an expression whose value is dropped -/
def tDrop (te : TE) : TS := fun D σ H => te σ H fun _ H1 => D.nx σ H1
theorem ps_expr (he : PE X e te) (hs : swapsWith e none pos.line X.env = pure false := by rfl) : PS X (.Expr e pos) (tDrop te) := by
  intro pins s σ H D I h
  exact wpAny_Expr_any (thn (he pins s σ H _ I h) fun v s1 ⟨x, H1, I1, r1, q1⟩ => ⟨σ, H1, I1, q1⟩) I.quiet hs
def tRet (te : TE) : TS := fun D σ H => te σ H D.rt
theorem ps_ret (he : PE X e te) : PS X (.Return (some e) pos) (tRet te) := by
  intro pins s σ H D I h
  exact wpAny_Return_some (thn (he pins s σ H _ I h) fun v s1 ⟨x, H1, I1, r1, q1⟩ => ⟨x, σ, H1, I1, r1, q1⟩)
def tIfS (c : TT) (t u : TS) : TS := fun D σ H => c σ H fun b H1 => if b = true then t D σ H1 else u D σ H1
theorem ps_if {c : Expr} {a b : List Stmt} {tc : TT} (hc : PT X c tc) (ha : PSs X a t) (hb : PSs X b u) : PS X (.If c a b pos) (tIfS tc t u) := by
  intro pins s σ H D I h
  refine wpAny_If (thn (hc pins s σ H _ I h) fun d s1 ⟨H1, I1, q1⟩ => ?_)
  cases d with
  | true => exact ha pins s1 σ H1 D I1 q1
  | false => exact hb pins s1 σ H1 D I1 q1
end

/-! ### targets -/
abbrev TG := V → St → Hp → (St → Hp → Prop) → Prop
abbrev TGs := List V → St → Hp → (St → Hp → Prop) → Prop
def PG (X : Cx) (target : Expr) (t : TG) : Prop :=
  ∀ (pins : List (Addr × Obj)) (s : Shared) (σ : St) (H : Hp) (v : V) (u : Value) (Q : St → Hp → Prop), Inv X pins σ H s → RelV v u → t v σ H Q →
    wpAny (model X.prog X.w) X.A (assign target X.env u) (fun _ s' => ∃ σ' H', Inv X pins σ' H' s' ∧ Q σ' H') X.xe s
/-- several targets, one after another -/
def PGs (X : Cx) (ts : List Expr) (t : TGs) : Prop :=
  ∀ (pins : List (Addr × Obj)) (s : Shared) (σ : St) (H : Hp) (vs : List V) (us : List Value) (Q : St → Hp → Prop), Inv X pins σ H s → Vals vs us → t vs σ H Q →
    wpAny (model X.prog X.w) X.A (assignInOrder ((assignEach ts X.env).map (·.2)) us) (fun _ s' => ∃ σ' H', Inv X pins σ' H' s' ∧ Q σ' H') X.xe s
/-- a op= b, by values -/
abbrev TIp := V → V → Hp → VK → Prop
def PIp (X : Cx) (op : Operator) (t : TIp) : Prop :=
  ∀ (pins : List (Addr × Obj)) (s : Shared) (σ : St) (H : Hp) (x y : V) (v u : Value) (Q : VK), Inv X pins σ H s → RelV x v → RelV y u → t x y H Q →
    wpAny (model X.prog X.w) X.A (inplaceOp op v u) (EP X pins σ Q) X.xe s
section
variable {X : Cx} {pos : Pos}
def gName (i : Nat) : TG := fun v σ H Q => Q (σ.set i (some v)) H
theorem pg_name {i : Nat} {x : Str} (hN : X.N.Nodup) (hi : X.N[i]? = some x) (hx : Loc X.env.scope x) (hf : X.fn x = true ∨ X.env.scope.names.lookup x = some .local := by first | exact .inl rfl | exact .inr rfl | assumption) : PG X (.Name x pos) (gName i) := by
  intro pins s σ H v u Q I r h
  exact wpAny_assign_Name (store_ok I hN hi hx r (fun s' I' => ⟨_, H, I', h⟩) hf)
def gNil : TGs := fun vs σ H Q => vs = [] ∧ Q σ H
def gCons (t : TG) (u : TGs) : TGs := fun vs σ H Q => ∃ v r, vs = v :: r ∧ t v σ H fun σ' H' => u r σ' H' Q
theorem pgs_nil : PGs X [] gNil := by
  intro pins s σ H vs us Q I r h
  obtain ⟨e, h⟩ := h
  subst e
  cases r
  exact assignInOrder_nil ⟨σ, H, I, h⟩
theorem pgs_cons {e : Expr} {es : List Expr} {t : TG} {u : TGs} (h1 : PG X e t) (h2 : PGs X es u)
    (hs : (assignEach (e :: es) X.env).map (·.2) = assign e X.env :: (assignEach es X.env).map (·.2) := by rfl) : PGs X (e :: es) (gCons t u) := by
  intro pins s σ H vs us Q I r h
  obtain ⟨v, vr, e1, h⟩ := h
  subst e1
  cases r with
  | cons r rr =>
    rw [hs]
    refine assignInOrder_cons (thn (h1 pins s σ H _ _ _ I r h) fun _ s1 ⟨σ1, H1, I1, q1⟩ => ?_)
    exact h2 pins s1 σ1 H1 _ _ Q I1 rr q1
/-- (a, b, ..) = a tuple of that length -/
def gTup (K : PySem.W.Frag) (n : Nat) (t : TGs) : TG := fun v σ H Q => ∃ a xs, v = .ref a ∧ SqT K H a xs ∧ xs.length = n ∧ t xs σ H Q
theorem pg_tup {es : List Expr} {k : Nat} {t : TGs} {n : Nat} (hc : X.calm = true) (h : PGs X es t)
    (hn : (assignEach es X.env).length = n := by rfl) (hst : (assignEach es X.env).findIdx? (·.1) = none := by rfl) : PG X (.Tuple es k pos) (gTup X.K n t) := by
  intro pins s σ H v u Q I r hw
  obtain ⟨a, xs, e1, hq, hl, hw⟩ := hw
  subst e1
  cases r
  obtain ⟨its, rv, ht, hz⟩ := I.tuple hq
  refine assign_Tuple_tuple (I.ok.hd hc) ht (by simp [hn, ← hl, rv.length]) hst fun h' hx => ?_
  have I1 : Inv X pins σ H { s with heap := h' } := I.kept (t' := s.toks) fun b o e => hx b o (Nat.ne_of_lt (Heap.lt_size e)) e
  exact h pins _ σ H xs _ Q I1 (by simpa using rv) hw
/-- target = value -/
def tAsg (te : TE) (g : TG) : TS := fun D σ H => te σ H fun x H1 => g x σ H1 D.nx
/-- name = value -/
theorem ps_set {i : Nat} {x : Str} {e : Expr} {te : TE} {pos' : Pos} (hN : X.N.Nodup) (hi : X.N[i]? = some x) (hx : Loc X.env.scope x) (he : PE X e te) (hs : swapsWith e (some (.Name x pos')) pos.line X.env = pure false := by rfl) (hf : X.fn x = true ∨ X.env.scope.names.lookup x = some .local := by first | exact .inl rfl | exact .inr rfl | assumption) :
    PS X (.Assign [.Name x pos'] e pos) (tAsg te (gName i)) := by
  intro pins s σ H D I h
  refine wpAny_Assign_Name (thn (he pins s σ H _ I h) fun v s1 ⟨y, H1, I1, r1, q1⟩ => ?_) hs
  exact store_ok I1 hN hi hx r1 (fun s2 I2 => ⟨_, H1, I2, q1⟩) hf
/-- name op= e -/
def tAug (i : Nat) (te : TE) (ti : TIp) : TS := fun D σ H => ∃ x, σ[i]? = some (some x) ∧ te σ H fun y H1 => ti x y H1 fun z H2 => D.nx (σ.set i (some z)) H2
theorem ps_aug {i : Nat} {x : Str} {e : Expr} {te : TE} {op : Operator} {ti : TIp} {pos' : Pos} (hN : X.N.Nodup) (hi : X.N[i]? = some x) (hx : Loc X.env.scope x) (he : PE X e te) (ho : PIp X op ti) (hf : X.fn x = true ∨ X.env.scope.names.lookup x = some .local := by first | exact .inl rfl | exact .inr rfl | assumption) :
    PS X (.AugAssign (.Name x pos') op e pos) (tAug i te ti) := by
  intro pins s σ H D I h
  obtain ⟨v, e1, h⟩ := h
  obtain ⟨m, hn, hl⟩ := I.loc
  have vis : Vis X.env.scope x := by rcases hx with k | k; exact .inl k; exact .inr (.inl k)
  obtain ⟨u, r, l⟩ := hl i x v hi e1 vis
  refine wpAny_AugAssign_Name ?_
  have go : wpAny (model X.prog X.w) X.A (eval e X.env) (fun w s₂ => wpAny (model X.prog X.w) X.A (inplaceOp op u w) (fun r s₃ => wpAny (model X.prog X.w) X.A (storeName X.env x r) (fun _ => SP X pins D .next) X.xe s₃) X.xe s₂) X.xe s := by
    refine thn (he pins s σ H _ I h) fun w s1 ⟨y, H1, I1, r1, q1⟩ => ?_
    refine thn (ho pins s1 σ H1 v y u w _ I1 r r1 q1) fun z s2 ⟨zv, H2, I2, r2, q2⟩ => ?_
    exact store_ok I2 hN hi hx r2 (fun s3 I3 => ⟨_, H2, I3, q2⟩) hf
  rcases l with ⟨hk, hm⟩ | ⟨hk, c, hc, hcell⟩
  · exact wpAny_loadName_local I.ok.kind hk hn hm go
  · rcases hk with hk | hk
    · exact wpAny_loadName_cell I.ok.kind hk hc hcell go
    · rcases hx with k | k
      · have : X.env.scope.names.lookup x = some .free := hk
        rw [k] at this; cases this
      · have : X.env.scope.names.lookup x = some .free := hk
        rw [k] at this; cases this
/-- ints -/
def ipI (f : Int → Int → Int) : TIp := fun x y H Q => ∃ i j, x = .int i ∧ y = .int j ∧ Q (.int (f i j)) H
theorem ip_add : PIp X .Add (ipI fun i j => i + j) := by
  intro pins s σ H x y v u Q I r1 r2 h
  obtain ⟨i, j, e1, e2, q⟩ := h
  subst e1; subst e2
  obtain ⟨t, rfl⟩ := r1
  obtain ⟨t', rfl⟩ := r2
  exact iadd_int ⟨.int _, H, I.tok _, ⟨_, rfl⟩, q⟩
end

/-! ### while -/
section
variable {X : Cx} {pos : Pos}
/-- the invariant W with its measure -/
def tWhile (c : TT) (tb : TS) : TS := fun D σ H => ∃ W : Nat → St → Hp → Prop, (∃ m, W m σ H) ∧ ∀ m σ H, W m σ H →
  c σ H fun b H1 => if b = true then ∃ N : St → Hp → Prop, (∀ σ' H', N σ' H' → ∃ m', m' < m ∧ W m' σ' H') ∧ tb { D with nx := N, ct := N, bk := D.nx } σ H1 else D.nx σ H1
theorem ps_while {c : Expr} {body : List Stmt} {tc : TT} {tb : TS} (hp : PassesOwn (model X.prog X.w) X.A X.env X.xe) (hc : PT X c tc) (hb : PSs X body tb) : PS X (.While c body [] pos) (tWhile tc tb) := by
  intro pins s σ H D I h
  obtain ⟨W, ⟨m0, w0⟩, turn⟩ := h
  refine wpAny_While (codeAny_whileLoop (fun n s' => ∃ σ' H', Inv X pins σ' H' s' ∧ W n σ' H') ?_ m0 ⟨σ, H, I, w0⟩)
  rintro n s1 ⟨σ1, H1, I1, w1⟩
  refine wpAny_passesOwn hp (thn (hc pins s1 σ1 H1 _ I1 (turn n σ1 H1 w1)) fun b s2 ⟨H2, I2, q2⟩ => ?_)
  cases b with
  | true =>
    obtain ⟨N, hN, q2⟩ := q2
    rw [if_pos rfl]
    refine wpAny_passesOwn hp (thn (hb pins s2 σ1 H2 _ I2 q2) fun f s3 q3 => ?_)
    cases f with
    | next =>
      obtain ⟨σ3, H3, I3, n3⟩ := q3
      obtain ⟨m', hm, w3⟩ := hN σ3 H3 n3
      exact ⟨m', hm, σ3, H3, I3, w3⟩
    | cont =>
      obtain ⟨σ3, H3, I3, n3⟩ := q3
      obtain ⟨m', hm, w3⟩ := hN σ3 H3 n3
      exact ⟨m', hm, σ3, H3, I3, w3⟩
    | brk => exact q3
    | ret v => exact q3
  | false =>
    rw [if_neg Bool.false_ne_true]
    exact wpAny_execs_nil ⟨σ1, H2, I2, q2⟩
end

/-! ### what a loop or a comprehension walks -/
/-- at turn i: it yields x (the heap may grow), or it stops -/
structure It where
  go : Nat → Hp → Prop
  yld : Nat → Hp → V → Hp → Prop
  stop : Nat → Hp → Prop
/-- the iterator's own objects may turn: they are not the frame's, not pinned, younger than the entry (or a comprehension's own) -/
def FpOk (X : Cx) (pins : List (Addr × Obj)) (H : Hp) (b : Addr) : Prop :=
  H b = none ∧ b ≠ X.env.locals ∧ b ∉ X.fs ∧ (b ∈ X.ex ∨ X.s_0.heap.objs.size ≤ b) ∧ (∀ x c, X.env.cells.lookup x = some c → c ≠ b) ∧ ∀ p ∈ X.pn ++ pins, p.1 ≠ b
theorem Inv.fpOk {X : Cx} {pins : List (Addr × Obj)} {σ : St} {H H' : Hp} {s : Shared} {b : Addr} (I : Inv X pins σ H s) (hb : s.heap.objs.size ≤ b) (hn : H' b = none) : FpOk X pins H' b := by
  refine ⟨hn, Nat.ne_of_gt (Nat.lt_of_lt_of_le I.lt hb), I.nofs hb, .inr (Nat.le_trans I.sz hb), fun x c e z => ?_, fun p hp z => ?_⟩
  · obtain ⟨v, q⟩ := I.cell x c e
    exact absurd (Nat.lt_of_lt_of_le q.lt (by rw [z]; exact hb)) (Nat.lt_irrefl _)
  · exact absurd (Nat.lt_of_lt_of_le (Heap.lt_size (I.pin p hp).1) (by rw [z]; exact hb)) (Nat.lt_irrefl _)
structure Turn (P : Program) (w : World) (K : PySem.W.Frag) (tg : Expr) (J : It) (fp : List Addr) (it : Addr) (tn : Nat → Heap → Prop) : Prop where
  mem : it ∈ fp
  obj : ∀ i h, tn i h → ∀ b ∈ fp, ∃ o, h.get? b = some o ∧ ∀ v, o.data ≠ .cell v
  keep : ∀ i h h', tn i h → (∀ b ∈ fp, ∀ o, h.get? b = some o → h'.get? b = some o) → tn i h'
  item : ∀ (X : Cx), X.prog = P → X.w = w → X.K = K → X.calm = true → ∀ (i : Nat) (pins : List (Addr × Obj)) (s : Shared) (σ : St) (H : Hp) (E : Value → Shared → Prop), Inv X pins σ H s → (∀ b ∈ fp, FpOk X pins H b) → tn i s.heap → J.go i H →
    wpAny (model P w) X.A (pyNext (.ref it)) (fun r s1 => ∃ u, r = some u ∧
      wpAny (model P w) X.A (letOwnedTupleGo tg (.ref it) u) (fun _ s2 => ∃ x H', Inv X pins σ H' s2 ∧ RelV x u ∧ J.yld i H x H' ∧ tn (i + 1) s2.heap ∧ ∀ b ∈ fp, H' b = none) E s1) E s
  done : ∀ (X : Cx), X.prog = P → X.w = w → X.K = K → X.calm = true → ∀ (i : Nat) (pins : List (Addr × Obj)) (s : Shared) (σ : St) (H : Hp) (E : Value → Shared → Prop), Inv X pins σ H s → (∀ b ∈ fp, FpOk X pins H b) → tn i s.heap → J.stop i H →
    wpAny (model P w) X.A (pyNext (.ref it)) (fun r s1 => r = none ∧ Inv X pins σ H s1) E s
  self : ∀ (A : Around) (i : Nat) (s : Shared) (Q : Value → Shared → Prop) (E : Value → Shared → Prop), tn i s.heap → Q (.ref it) s → wpAny (model P w) A (pyIter (.ref it)) Q E s
abbrev TI := St → Hp → (It → Hp → Prop) → Prop
/-- an iterator has come -/
def PIE (X : Cx) (pins : List (Addr × Obj)) (σ : St) (tg : Expr) (R : It → Hp → Prop) (itv : Value) (s2 : Shared) : Prop :=
  ∃ (it : Addr) (fp : List Addr) (tn : Nat → Heap → Prop) (J : It) (H' : Hp), itv = .ref it ∧ Inv X pins σ H' s2 ∧ Turn X.prog X.w X.K tg J fp it tn ∧ tn 0 s2.heap ∧ (∀ b ∈ fp, FpOk X pins H' b) ∧ R J H'
def PI (X : Cx) (tg iter : Expr) (wi : TI) : Prop :=
  ∀ (pins : List (Addr × Obj)) (s : Shared) (σ : St) (H : Hp) (R : It → Hp → Prop), Inv X pins σ H s → wi σ H R →
    wpAny (model X.prog X.w) X.A (eval iter X.env) (fun v s1 => wpAny (model X.prog X.w) X.A (pyIter v) (PIE X pins σ tg R) X.xe s1) X.xe s

/-- the step ahead of the store is nothing for an iterator that keeps no tuple -/
theorem go_of {M : Model} {A : Around} {E : Value → Shared → Prop} {s : Shared} {tg : Expr} {it : Addr} {u : Value} {o : Obj} {n : String} {vs : Array Value} {Q : Unit → Shared → Prop} (ho : s.heap.get? it = some o) (hc : o.cls = .type n) (hd : o.data = .fields vs)
    (hn : ["enumerate", "zip", "dict_itemiterator", "dict_reverseitemiterator", "odict_iterator", "itertools.zip_longest", "itertools.pairwise"].contains n = false) (hQ : Q () s) : wpAny M A (letOwnedTupleGo tg (.ref it) u) Q E s := by
  unfold letOwnedTupleGo
  cases tg <;> first
    | exact wpAny_pure hQ
    | (cases u <;> first
        | exact wpAny_pure hQ
        | (refine wpAny_bind (wpAny_load ho ?_)
           rw [hc, hd]
           show wpAny M A (if (["enumerate", "zip", "dict_itemiterator", "dict_reverseitemiterator", "odict_iterator", "itertools.zip_longest", "itertools.pairwise"].contains n && vs[0]? == some (rawInt _)) = true then _ else _) Q E s
           rw [if_neg (by intro h; rw [hn, Bool.false_and] at h; cases h)]
           exact wpAny_pure hQ))

/-- the list at a, as it stands at each turn (a loop may append to it) -/
def Itl (K : PySem.W.Frag) (a : Addr) : It :=
  ⟨fun i H => ∃ xs x, SqL K H a xs ∧ xs[i]? = some x, fun i H x H' => H' = H ∧ ∀ xs, SqL K H a xs → xs[i]? = some x, fun i H => ∃ xs, SqL K H a xs ∧ xs.length ≤ i⟩
def Itt (K : PySem.W.Frag) (a : Addr) : It :=
  ⟨fun i H => ∃ xs x, SqT K H a xs ∧ xs[i]? = some x, fun i H x H' => H' = H ∧ ∀ xs, SqT K H a xs → xs[i]? = some x, fun i H => ∃ xs, SqT K H a xs ∧ xs.length ≤ i⟩
theorem turn_list {P : Program} {w : World} {K : PySem.W.Frag} {tg : Expr} (a it : Addr) : Turn P w K tg (Itl K a) [it] it (fun i h => h.IsListIter it a i) where
  mem := by simp
  obj := fun i h st b hb => by
    have e : b = it := by simpa using hb
    subst e
    obtain ⟨o, e, c, d⟩ := st
    exact ⟨o, e, fun v z => by rw [d] at z; cases z⟩
  keep := fun i h h' st k => st.at fun o e => k it (by simp) o e
  item := by
    intro X hP hw hK hc i pins s σ H E I hf st hg
    subst hP hw hK
    obtain ⟨xs, x, hq, hx⟩ := hg
    obtain ⟨its, rv, p, hz⟩ := I.list hq
    obtain ⟨u, hu, ru⟩ := rv.get hx
    obtain ⟨f0, f1, f2, f3, f4, f5⟩ := hf it (by simp)
    refine wpAny_pyNext_list_item st p.isList (x := u) (by simpa using hu) fun h' st' sb => ?_
    have I1 : Inv X pins σ H { s with heap := h' } := I.turned (t' := s.toks) (fun b o hb e => (sb.2 b hb).trans e) f0 f1 f3 f4 f5
    obtain ⟨o, e, c, d⟩ := id st'
    exact ⟨u, rfl, go_of (s := { s with heap := h' }) e c d (by decide) ⟨x, H, I1, ru, ⟨rfl, fun ys hy => by rw [I.list_inj hy hq]; exact hx⟩, st', fun b hb => (hf b hb).1⟩⟩
  done := by
    intro X hP hw hK hc i pins s σ H E I hf st hg
    subst hP hw hK
    obtain ⟨xs, hq, hx⟩ := hg
    obtain ⟨its, rv, p, hz⟩ := I.list hq
    obtain ⟨f0, f1, f2, f3, f4, f5⟩ := hf it (by simp)
    have hl := rv.length
    exact wpAny_pyNext_list_end (I.ok.hd hc) st p.isList (by simp; omega) fun h' eb => ⟨rfl, I.turned (t' := s.toks) (fun b o hb e => eb b o hb e) f0 f1 f3 f4 f5⟩
  self := fun _ _ _ _ _ st h => wpAny_pyIter_listiter st h
theorem turn_tuple {P : Program} {w : World} {K : PySem.W.Frag} {tg : Expr} (a it : Addr) : Turn P w K tg (Itt K a) [it] it (fun i h => h.IsTupleIter it a i) where
  mem := by simp
  obj := fun i h st b hb => by
    have e : b = it := by simpa using hb
    subst e
    obtain ⟨o, e, c, d⟩ := st
    exact ⟨o, e, fun v z => by rw [d] at z; cases z⟩
  keep := fun i h h' st k => st.at fun o e => k it (by simp) o e
  item := by
    intro X hP hw hK hc i pins s σ H E I hf st hg
    subst hP hw hK
    obtain ⟨xs, x, hq, hx⟩ := hg
    obtain ⟨its, rv, p, hz⟩ := I.tuple hq
    obtain ⟨u, hu, ru⟩ := rv.get hx
    obtain ⟨f0, f1, f2, f3, f4, f5⟩ := hf it (by simp)
    refine wpAny_pyNext_tuple_item st (show s.heap.IsTuple a its.toArray from p) (x := u) (by simpa using hu) fun h' st' sb => ?_
    have I1 : Inv X pins σ H { s with heap := h' } := I.turned (t' := s.toks) (fun b o hb e => (sb.2 b hb).trans e) f0 f1 f3 f4 f5
    obtain ⟨o, e, c, d⟩ := id st'
    exact ⟨u, rfl, go_of (s := { s with heap := h' }) e c d (by decide) ⟨x, H, I1, ru, ⟨rfl, fun ys hy => by rw [I.tuple_inj hy hq]; exact hx⟩, st', fun b hb => (hf b hb).1⟩⟩
  done := by
    intro X hP hw hK hc i pins s σ H E I hf st hg
    subst hP hw hK
    obtain ⟨xs, hq, hx⟩ := hg
    obtain ⟨its, rv, p, hz⟩ := I.tuple hq
    obtain ⟨f0, f1, f2, f3, f4, f5⟩ := hf it (by simp)
    have hl := rv.length
    exact wpAny_pyNext_tuple_end (I.ok.hd hc) st (show s.heap.IsTuple a its.toArray from p) (by simp; omega) fun h' eb => ⟨rfl, I.turned (t' := s.toks) (fun b o hb e => eb b o hb e) f0 f1 f3 f4 f5⟩
  self := fun _ _ _ _ _ st h => wpAny_pyIter_tupleiter st h
end L2

namespace L2
open PySem PySem.Spec PyProof.Rows
section
variable {X : Cx} {tg : Expr}
def iList (K : PySem.W.Frag) (tl : TE) : TI := fun σ H R => tl σ H fun x H1 => ∃ a, x = .ref a ∧ (∃ xs, SqL K H1 a xs) ∧ R (Itl K a) H1
def iTup (K : PySem.W.Frag) (tl : TE) : TI := fun σ H R => tl σ H fun x H1 => ∃ a, x = .ref a ∧ (∃ xs, SqT K H1 a xs) ∧ R (Itt K a) H1
theorem pi_list {l : Expr} {tl : TE} (hl : PE X l tl) : PI X tg l (iList X.K tl) := by
  intro pins s σ H R I h
  refine thn (hl pins s σ H _ I h) fun v s1 ⟨x, H1, I1, r1, q1⟩ => ?_
  obtain ⟨a, e, ⟨xs, hq⟩, q⟩ := q1
  subst e
  cases r1
  obtain ⟨its, rv, p, hz⟩ := I1.list hq
  refine wpAny_pyIter_list p.isList ?_
  refine ⟨s1.heap.objs.size, [s1.heap.objs.size], _, _, H1, rfl, I1.kept (t' := s1.toks) fun b o e => Heap.get?_push_of_some _ e, turn_list a _, ⟨_, Heap.get?_push_size _ rfl, rfl, rfl⟩, fun b hb => ?_, q⟩
  have e : b = s1.heap.objs.size := by simpa using hb
  subst e
  exact I1.fpOk (Nat.le_refl _) (I1.hok.fresh (Nat.le_refl _))
theorem pi_tup {l : Expr} {tl : TE} (hl : PE X l tl) : PI X tg l (iTup X.K tl) := by
  intro pins s σ H R I h
  refine thn (hl pins s σ H _ I h) fun v s1 ⟨x, H1, I1, r1, q1⟩ => ?_
  obtain ⟨a, e, ⟨xs, hq⟩, q⟩ := q1
  subst e
  cases r1
  obtain ⟨its, rv, p, hz⟩ := I1.tuple hq
  refine wpAny_pyIter_tuple (show s1.heap.IsTuple a its.toArray from p) ?_
  refine ⟨s1.heap.objs.size, [s1.heap.objs.size], _, _, H1, rfl, I1.kept (t' := s1.toks) fun b o e => Heap.get?_push_of_some _ e, turn_tuple a _, ⟨_, Heap.get?_push_size _ rfl, rfl, rfl⟩, fun b hb => ?_, q⟩
  have e : b = s1.heap.objs.size := by simpa using hb
  subst e
  exact I1.fpOk (Nat.le_refl _) (I1.hok.fresh (Nat.le_refl _))

/-! ### for -/
/-- W: the invariant by the turn and a measure; N: what the body is to reach -/
def tFor (wi : TI) (g : TG) (tb : TS) : TS := fun D σ H => wi σ H fun J H1 => ∃ W : Nat → Nat → St → Hp → Prop, (∃ m, W 0 m σ H1) ∧ ∀ i m σ H, W i m σ H →
  (J.stop i H ∧ D.nx σ H) ∨ (J.go i H ∧ ∃ N : St → Hp → Prop, (∀ σ' H', N σ' H' → ∃ m', m' < m ∧ W (i + 1) m' σ' H') ∧ ∀ x H', J.yld i H x H' → g x σ H' fun σ2 H2 => tb { D with nx := N, ct := N, bk := D.nx } σ2 H2)
/-- the records at fp as they stand -/
def pinsAt (fp : List Addr) (h : Heap) : List (Addr × Obj) := fp.filterMap fun b => (h.get? b).map fun o => (b, o)
theorem mem_pinsAt {fp : List Addr} {h : Heap} {b : Addr} {o : Obj} (hb : b ∈ fp) (e : h.get? b = some o) : (b, o) ∈ pinsAt fp h := List.mem_filterMap.mpr ⟨b, hb, by rw [e]; rfl⟩
theorem of_pinsAt {fp : List Addr} {h : Heap} {p : Addr × Obj} (hp : p ∈ pinsAt fp h) : p.1 ∈ fp ∧ h.get? p.1 = some p.2 := by
  obtain ⟨b, hb, e⟩ := List.mem_filterMap.mp hp
  cases q : h.get? b with
  | none => rw [q] at e; cases e
  | some o =>
    rw [q] at e
    have e' : (b, o) = p := Option.some.inj e
    subst e'
    exact ⟨hb, q⟩
theorem Inv.pinned {pins : List (Addr × Obj)} {σ : St} {H : Hp} {s : Shared} {fp : List Addr} (I : Inv X pins σ H s) (hf : ∀ b ∈ fp, FpOk X pins H b) (ho : ∀ b ∈ fp, ∃ o, s.heap.get? b = some o ∧ ∀ v, o.data ≠ .cell v) : Inv X (pins ++ pinsAt fp s.heap) σ H s :=
  I.pins_of fun p hp => (List.mem_append.mp hp).elim (fun z => I.pin p (List.mem_append_right _ z)) fun z => by
    obtain ⟨hb, e⟩ := of_pinsAt z
    obtain ⟨f0, f1, f2, _⟩ := hf p.1 hb
    obtain ⟨o, e', d⟩ := ho p.1 hb
    rw [e] at e'; cases e'
    exact ⟨e, f0, f1, f2, d⟩
theorem Inv.unpinned {pins pl : List (Addr × Obj)} {σ : St} {H : Hp} {s : Shared} (I : Inv X (pins ++ pl) σ H s) : Inv X pins σ H s := I.pins_of fun p hp => I.pin p (List.mem_append_right _ (List.mem_append_left _ hp))
theorem ps_for {iter : Expr} {body : List Stmt} {wi : TI} {g : TG} {tb : TS} {pos : Pos} (hp : PassesOwn (model X.prog X.w) X.A X.env X.xe) (hc : X.calm = true) (hi : PI X tg iter wi) (hg : PG X tg g) (hb : PSs X body tb)
    (hs : ∀ x, foldedSetIterable iter X.env x = pure x := by intro _; rfl) : PS X (.For tg iter body [] pos) (tFor wi g tb) := by
  intro pins s σ H D I h
  refine wpAny_For (thn (hi pins s σ H _ I h) fun v s1 h1 => thn h1 fun itv s2 h2 => ?_) hs
  obtain ⟨it, fp, tn, J, H2, e, I2, T, st2, f2, W, ⟨m0, w0⟩, turn⟩ := h2
  subst e
  -- what stays true of the iterator's objects through the loop
  have stat : ∀ {H' : Hp}, (∀ b ∈ fp, H' b = none) → ∀ b ∈ fp, FpOk X pins H' b := fun hn b hb => ⟨hn b hb, (f2 b hb).2⟩
  refine codeAny_forLoop_any (fun n s' => ∃ i σ' H', Inv X pins σ' H' s' ∧ tn i s'.heap ∧ (∀ b ∈ fp, H' b = none) ∧ W i n σ' H') ?_ m0 ⟨0, σ, H2, I2, st2, fun b hb => (f2 b hb).1, w0⟩
  rintro n s3 ⟨i, σ3, H3, I3, st3, fr3, w3⟩
  rcases turn i n σ3 H3 w3 with ⟨stop, qn⟩ | ⟨go, N, hN, step⟩
  · refine wpAny_passesOwn hp (thn (T.done X rfl rfl rfl hc i pins s3 σ3 H3 X.xe I3 (stat fr3) st3 stop) fun r s4 ⟨hr, I4⟩ => ?_)
    subst hr
    exact wpAny_execs_nil ⟨σ3, H3, I4, qn⟩
  · refine wpAny_passesOwn hp (thn (T.item X rfl rfl rfl hc i pins s3 σ3 H3 X.xe I3 (stat fr3) st3 go) fun r s4 ⟨u, hr, h4⟩ => ?_)
    subst hr
    refine wpAny_passesOwn hp (thn h4 fun _ s5 ⟨x, H5, I5, r5, y5, st5, fr5⟩ => ?_)
    have I5' := I5.pinned (stat fr5) (T.obj _ _ st5)
    refine wpAny_passesOwn hp (thn (hg _ s5 σ3 H5 x u _ I5' r5 (step x H5 y5)) fun _ s6 ⟨σ6, H6, I6, q6⟩ => ?_)
    refine wpAny_passesOwn hp (thn (hb _ s6 σ6 H6 _ I6 q6) fun f s7 q7 => ?_)
    have again : ∀ {σ7 : St} {H7 : Hp}, Inv X (pins ++ pinsAt fp s5.heap) σ7 H7 s7 → N σ7 H7 → ∃ m, m < n ∧ ∃ i σ' H', Inv X pins σ' H' s7 ∧ tn i s7.heap ∧ (∀ b ∈ fp, H' b = none) ∧ W i m σ' H' := fun {σ7 H7} I7 n7 => by
      obtain ⟨m', hm, w7⟩ := hN σ7 H7 n7
      refine ⟨m', hm, i + 1, σ7, H7, I7.unpinned, T.keep _ _ _ st5 fun b hb o e => (I7.pin (b, o) (List.mem_append_right _ (List.mem_append_right _ (mem_pinsAt hb e)))).1, fun b hb => ?_, w7⟩
      obtain ⟨o, e, d⟩ := T.obj _ _ st5 b hb
      exact (I7.pin (b, o) (List.mem_append_right _ (List.mem_append_right _ (mem_pinsAt hb e)))).2.1
    cases f with
    | next => obtain ⟨σ7, H7, I7, n7⟩ := q7; exact again I7 n7
    | cont => obtain ⟨σ7, H7, I7, n7⟩ := q7; exact again I7 n7
    | brk => obtain ⟨σ7, H7, I7, q7⟩ := q7; exact ⟨σ7, H7, I7.unpinned, q7⟩
    | ret v => obtain ⟨x7, σ7, H7, I7, r7, q7⟩ := q7; exact ⟨x7, σ7, H7, I7.unpinned, r7, q7⟩
end

/-! ### the forms one uses -/
/-- over a list that the body leaves as it is -/
theorem for_list {K : PySem.W.Frag} {a : Addr} {xs : List V} {g : TG} {tb : TS} {D : Ends} {σ : St} {H : Hp} (Pv : Nat → St → Hp → Prop) (h0 : Pv 0 σ H) (hl : ∀ i σ H, i ≤ xs.length → Pv i σ H → SqL K H a xs)
    (hs : ∀ i x σ H, xs[i]? = some x → Pv i σ H → g x σ H fun σ2 H2 => tb { D with nx := Pv (i + 1), ct := Pv (i + 1), bk := D.nx } σ2 H2) (hd : ∀ σ H, Pv xs.length σ H → D.nx σ H) :
    ∃ W : Nat → Nat → St → Hp → Prop, (∃ m, W 0 m σ H) ∧ ∀ i m σ H, W i m σ H →
      ((Itl K a).stop i H ∧ D.nx σ H) ∨ ((Itl K a).go i H ∧ ∃ N : St → Hp → Prop, (∀ σ' H', N σ' H' → ∃ m', m' < m ∧ W (i + 1) m' σ' H') ∧ ∀ x H', (Itl K a).yld i H x H' → g x σ H' fun σ2 H2 => tb { D with nx := N, ct := N, bk := D.nx } σ2 H2) := by
  refine ⟨fun i m σ H => m = xs.length - i ∧ i ≤ xs.length ∧ Pv i σ H, ⟨xs.length, by simp, Nat.zero_le _, h0⟩, ?_⟩
  rintro i m σ H ⟨rfl, hi, p⟩
  have q := hl i σ H hi p
  by_cases hlt : i < xs.length
  · refine .inr ⟨⟨xs, xs[i], q, by simp [hlt]⟩, Pv (i + 1), fun σ' H' p' => ⟨xs.length - (i + 1), by omega, rfl, hlt, p'⟩, fun x H' y => ?_⟩
    obtain ⟨e, y⟩ := y
    subst e
    exact hs i x σ _ (y xs q) p
  · have e : i = xs.length := by omega
    subst e
    exact .inl ⟨⟨xs, q, Nat.le_refl _⟩, hd σ H p⟩
theorem for_tup {K : PySem.W.Frag} {a : Addr} {xs : List V} {g : TG} {tb : TS} {D : Ends} {σ : St} {H : Hp} (Pv : Nat → St → Hp → Prop) (h0 : Pv 0 σ H) (hl : ∀ i σ H, i ≤ xs.length → Pv i σ H → SqT K H a xs)
    (hs : ∀ i x σ H, xs[i]? = some x → Pv i σ H → g x σ H fun σ2 H2 => tb { D with nx := Pv (i + 1), ct := Pv (i + 1), bk := D.nx } σ2 H2) (hd : ∀ σ H, Pv xs.length σ H → D.nx σ H) :
    ∃ W : Nat → Nat → St → Hp → Prop, (∃ m, W 0 m σ H) ∧ ∀ i m σ H, W i m σ H →
      ((Itt K a).stop i H ∧ D.nx σ H) ∨ ((Itt K a).go i H ∧ ∃ N : St → Hp → Prop, (∀ σ' H', N σ' H' → ∃ m', m' < m ∧ W (i + 1) m' σ' H') ∧ ∀ x H', (Itt K a).yld i H x H' → g x σ H' fun σ2 H2 => tb { D with nx := N, ct := N, bk := D.nx } σ2 H2) := by
  refine ⟨fun i m σ H => m = xs.length - i ∧ i ≤ xs.length ∧ Pv i σ H, ⟨xs.length, by simp, Nat.zero_le _, h0⟩, ?_⟩
  rintro i m σ H ⟨rfl, hi, p⟩
  have q := hl i σ H hi p
  by_cases hlt : i < xs.length
  · refine .inr ⟨⟨xs, xs[i], q, by simp [hlt]⟩, Pv (i + 1), fun σ' H' p' => ⟨xs.length - (i + 1), by omega, rfl, hlt, p'⟩, fun x H' y => ?_⟩
    obtain ⟨e, y⟩ := y
    subst e
    exact hs i x σ _ (y xs q) p
  · have e : i = xs.length := by omega
    subst e
    exact .inl ⟨⟨xs, q, Nat.le_refl _⟩, hd σ H p⟩
/-- while, by a word and a measure of the state -/
theorem while_by {c : TT} {tb : TS} {D : Ends} {σ : St} {H : Hp} (Pv : St → Hp → Prop) (μ : St → Hp → Nat) (h0 : Pv σ H)
    (hs : ∀ σ H, Pv σ H → c σ H fun b H1 => if b = true then tb { D with nx := fun σ' H' => Pv σ' H' ∧ μ σ' H' < μ σ H, ct := fun σ' H' => Pv σ' H' ∧ μ σ' H' < μ σ H, bk := D.nx } σ H1 else D.nx σ H1)
    (mono : ∀ σ H Q Q', (∀ b H1, Q b H1 → Q' b H1) → c σ H Q → c σ H Q') : tWhile c tb D σ H := by
  refine ⟨fun m σ H => m = μ σ H ∧ Pv σ H, ⟨_, rfl, h0⟩, ?_⟩
  rintro m σ H ⟨rfl, p⟩
  refine mono σ H _ _ (fun b H1 q => ?_) (hs σ H p)
  cases b with
  | true => exact ⟨_, fun σ' H' ⟨p', l⟩ => ⟨_, l, rfl, p'⟩, q⟩
  | false => exact q
end L2

namespace L2
open PySem PySem.Spec PyProof.Rows

abbrev R2 := V → V → Hp → VK → Prop
/-- a two-place operation on values: f is binaryOp op, inplaceOp op or compareOp op -/
def OpR (X : Cx) (f : Value → Value → Sem Value) (r : R2) : Prop :=
  ∀ (pins : List (Addr × Obj)) (s : Shared) (σ : St) (H : Hp) (x y : V) (v u : Value) (Q : VK), Inv X pins σ H s → RelV x v → RelV y u → r x y H Q →
    wpAny (model X.prog X.w) X.A (f v u) (EP X pins σ Q) X.xe s
/-- a one-place operation -/
def UnR (X : Cx) (f : Value → Sem Value) (r : V → Hp → VK → Prop) : Prop :=
  ∀ (pins : List (Addr × Obj)) (s : Shared) (σ : St) (H : Hp) (x : V) (v : Value) (Q : VK), Inv X pins σ H s → RelV x v → r x H Q →
    wpAny (model X.prog X.w) X.A (f v) (EP X pins σ Q) X.xe s
/-- a call of a value that is known (a builtin, a type) with values -/
def CallR (X : Cx) (f : Value) (r : List V → Hp → VK → Prop) : Prop :=
  ∀ (pins : List (Addr × Obj)) (s : Shared) (σ : St) (H : Hp) (xs : List V) (us : List Value) (Q : VK), Inv X pins σ H s → Vals xs us → r xs H Q →
    wpAny (model X.prog X.w) X.A (call f us) (EP X pins σ Q) X.xe s
/-- a value's truth -/
def TruR (X : Cx) (r : V → Hp → (Bool → Hp → Prop) → Prop) : Prop :=
  ∀ (pins : List (Addr × Obj)) (s : Shared) (σ : St) (H : Hp) (x : V) (v : Value) (Q : Bool → Hp → Prop), Inv X pins σ H s → RelV x v → r x H Q →
    wpAny (model X.prog X.w) X.A (truthy v) (TP X pins σ Q) X.xe s

def tOp (r : R2) (ta tb : TE) : TE := fun σ H Q => ta σ H fun x H1 => tb σ H1 fun y H2 => r x y H2 Q
def tUn (r : V → Hp → VK → Prop) (ta : TE) : TE := fun σ H Q => ta σ H fun x H1 => r x H1 Q
/-- ints in, under C, and a value out -/
def rI (C : Int → Int → Prop) (g : Int → Int → V) : R2 := fun x y H Q => ∃ i j, x = .int i ∧ y = .int j ∧ C i j ∧ Q (g i j) H
def rI0 (g : Int → Int → V) : R2 := fun x y H Q => ∃ i j, x = .int i ∧ y = .int j ∧ Q (g i j) H
def rU (g : Int → V) : V → Hp → VK → Prop := fun x H Q => ∃ i, x = .int i ∧ Q (g i) H

section
variable {X : Cx} {a b c : Expr} {ta tb tc : TE} {pos : Pos}

theorem binT (ha : PE X a ta) (hb : PE X b tb) {pins : List (Addr × Obj)} {s : Shared} {σ : St} {H : Hp} {R : V → V → Hp → Prop} (I : Inv X pins σ H s)
    (h : ta σ H fun x H1 => tb σ H1 fun y H2 => R x y H2) {Q : Value → Shared → Prop} {f : Value → Value → Sem Value}
    (hf : ∀ v u s2 x y H2, Inv X pins σ H2 s2 → RelV x v → RelV y u → R x y H2 → wpAny (model X.prog X.w) X.A (f v u) Q X.xe s2) :
    wpAny (model X.prog X.w) X.A (eval a X.env) (fun v s₁ => wpAny (model X.prog X.w) X.A (eval b X.env) (fun u s₂ => wpAny (model X.prog X.w) X.A (f v u) Q X.xe s₂) X.xe s₁) X.xe s := by
  refine thn (ha pins s σ H _ I h) fun v s1 ⟨x, H1, I1, r1, q1⟩ => ?_
  refine thn (hb pins s1 σ H1 _ I1 q1) fun u s2 ⟨y, H2, I2, r2, q2⟩ => ?_
  exact hf v u s2 x y H2 I2 r1 r2 q2

theorem pe_op {op : Operator} {r : R2} (ho : OpR X (binaryOp op) r) (ha : PE X a ta) (hb : PE X b tb) : PE X (.BinOp a op b pos) (tOp r ta tb) := by
  intro pins s σ H Q I h
  exact wpAny_BinOp (binT ha hb I h fun v u s2 x y H2 I2 rx ry q => ho pins s2 σ H2 x y v u Q I2 rx ry q)
theorem pe_un {op : UnaryOp} {r : V → Hp → VK → Prop} (ho : UnR X (unaryOp op) r) (ha : PE X a ta) : PE X (.UnaryOp op a pos) (tUn r ta) := by
  intro pins s σ H Q I h
  exact UnaryOp_ (thn (ha pins s σ H _ I h) fun v s1 ⟨x, H1, I1, r1, q1⟩ => ho pins s1 σ H1 x v Q I1 r1 q1)

/-! ### ints -/
theorem opI {f : Value → Value → Sem Value} {C : Int → Int → Prop} {g : Int → Int → Int}
    (rule : ∀ (i j : Int) (t u : Tok) (s : Shared) (Q : Value → Shared → Prop) (E : Value → Shared → Prop), C i j → Q (.int (g i j) s.toks) { s with toks := s.toks + 1 } → wpAny (model X.prog X.w) X.A (f (.int i t) (.int j u)) Q E s) :
    OpR X f (rI C fun i j => .int (g i j)) := by
  intro pins s σ H x y v u Q I rx ry h
  obtain ⟨i, j, rfl, rfl, hc, q⟩ := h
  obtain ⟨t, rfl⟩ := rx
  obtain ⟨t', rfl⟩ := ry
  exact rule i j t t' s _ _ hc ⟨.int (g i j), H, I.tok _, ⟨_, rfl⟩, q⟩
theorem opI0 {f : Value → Value → Sem Value} {g : Int → Int → Int}
    (rule : ∀ (i j : Int) (t u : Tok) (s : Shared) (Q : Value → Shared → Prop) (E : Value → Shared → Prop), Q (.int (g i j) s.toks) { s with toks := s.toks + 1 } → wpAny (model X.prog X.w) X.A (f (.int i t) (.int j u)) Q E s) :
    OpR X f (rI0 fun i j => .int (g i j)) := by
  intro pins s σ H x y v u Q I rx ry h
  obtain ⟨i, j, rfl, rfl, q⟩ := h
  obtain ⟨t, rfl⟩ := rx
  obtain ⟨t', rfl⟩ := ry
  exact rule i j t t' s _ _ ⟨.int (g i j), H, I.tok _, ⟨_, rfl⟩, q⟩
theorem opB0 {f : Value → Value → Sem Value} {g : Int → Int → Bool}
    (rule : ∀ (i j : Int) (t u : Tok) (s : Shared) (Q : Value → Shared → Prop) (E : Value → Shared → Prop), Q (.bool (g i j)) s → wpAny (model X.prog X.w) X.A (f (.int i t) (.int j u)) Q E s) :
    OpR X f (rI0 fun i j => .bl (g i j)) := by
  intro pins s σ H x y v u Q I rx ry h
  obtain ⟨i, j, rfl, rfl, q⟩ := h
  obtain ⟨t, rfl⟩ := rx
  obtain ⟨t', rfl⟩ := ry
  exact rule i j t t' s _ _ ⟨.bl (g i j), H, I, rfl, q⟩

def CDiv (i j : Int) : Prop := 0 < j ∧ j < 1073741824
def CPow (i j : Int) : Prop := 0 ≤ j ∧ j ≤ 1000000 ∧ i.natAbs < 2 ^ 64
def CMul (i j : Int) : Prop := (-(2 ^ 64) < i ∧ i < 2 ^ 64) ∨ (-(2 ^ 64) < j ∧ j < 2 ^ 64)
theorem CMul.ok {i j : Int} (h : CMul i j) : IntMulOk i j := by
  rcases h with ⟨h1, h2⟩ | ⟨h1, h2⟩
  · exact .of_left (intBits_le_64 h1 h2)
  · exact .of_right (intBits_le_64 h1 h2)

theorem op_add : OpR X (binaryOp .Add) (rI0 fun i j => .int (i + j)) := opI0 fun _ _ _ _ _ _ _ q => add_int q
theorem op_sub : OpR X (binaryOp .Sub) (rI0 fun i j => .int (i - j)) := opI0 fun _ _ _ _ _ _ _ q => sub_int q
theorem op_mul : OpR X (binaryOp .Mult) (rI CMul fun i j => .int (i * j)) := opI fun _ _ _ _ _ _ _ hc q => mul_int q hc.ok
/-- // by a positive divisor -/
theorem op_fdiv : OpR X (binaryOp .FloorDiv) (rI CDiv fun i j => .int (i / j)) := opI fun i j _ _ _ _ _ hc q => by
  have h1 : (0 : Int) < j := hc.1
  have h2 : j < 1073741824 := hc.2
  exact floordiv_int (by omega) (by rw [Int.fdiv_eq_ediv_of_nonneg i (by omega)]; exact q) (.inl (PyProof.noPylong_small (by omega)))
/-- % by a positive divisor of any size -/
theorem op_mod : OpR X (binaryOp .Mod) (rI (fun _ j => 0 < j) fun i j => .int (i % j)) := opI fun i j _ _ _ _ _ hc q => by
  have h1 : (0 : Int) < j := hc
  exact mod_int' (by omega) (by rw [Int.fmod_eq_emod_of_nonneg i (by omega)]; exact q)
theorem op_shl : OpR X (binaryOp .LShift) (rI CPow fun i j => .int (i * 2 ^ j.toNat)) := opI fun _ _ _ _ _ _ _ hc q => lshift_int_small hc.1 hc.2.1 hc.2.2 q
theorem op_and : OpR X (binaryOp .BitAnd) (rI0 fun i j => .int (Builtin.bitAnd i j)) := opI0 fun _ _ _ _ _ _ _ q => and_int q
theorem op_or : OpR X (binaryOp .BitOr) (rI0 fun i j => .int (Builtin.bitOr i j)) := opI0 fun _ _ _ _ _ _ _ q => or_int q


theorem unI {f : Value → Sem Value} {g : Int → Int}
    (rule : ∀ (i : Int) (t : Tok) (s : Shared) (Q : Value → Shared → Prop) (E : Value → Shared → Prop), Q (.int (g i) s.toks) { s with toks := s.toks + 1 } → wpAny (model X.prog X.w) X.A (f (.int i t)) Q E s) :
    UnR X f (rU fun i => .int (g i)) := by
  intro pins s σ H x v Q I rx h
  obtain ⟨i, rfl, q⟩ := h
  obtain ⟨t, rfl⟩ := rx
  exact rule i t s _ _ ⟨.int (g i), H, I.tok _, ⟨_, rfl⟩, q⟩
theorem un_neg : UnR X (unaryOp .USub) (rU fun i => .int (-i)) := unI fun _ _ _ _ _ q => neg_int q

/-! ### bools among ints: n += (a < b) -/
end

/-! ### comparisons -/
/-- the scalars that == tells apart as data does -/
def scal : V → V → Bool
  | .non, .non => true | .non, .int _ => true | .int _, .non => true | .non, .bl _ => true | .bl _, .non => true | .non, .str _ => true | .str _, .non => true
  | .int _, .int _ => true | .bl _, .bl _ => true | .str _, .str _ => true | .byt _, .byt _ => true
  | .int _, .str _ => true | .str _, .int _ => true | .bl _, .str _ => true | .str _, .bl _ => true
  | _, _ => false
def rEq : R2 := fun x y H Q => scal x y = true ∧ Q (.bl (decide (x = y))) H
def rNe : R2 := fun x y H Q => scal x y = true ∧ Q (.bl (!decide (x = y))) H

theorem dec_int {i j : Int} : decide (V.int i = V.int j) = (i == j) := by
  rw [Bool.eq_iff_iff]
  simp
theorem dec_bl {i j : Bool} : decide (V.bl i = V.bl j) = (i == j) := by
  rw [Bool.eq_iff_iff]
  simp
theorem dec_str {i j : Str} : decide (V.str i = V.str j) = (i == j) := by
  rw [Bool.eq_iff_iff]
  simp
theorem dec_byt {i j : Array UInt8} : decide (V.byt i = V.byt j) = (i.toList == j.toList) := by
  rw [Bool.eq_iff_iff]
  cases i
  cases j
  simp

section
variable {X : Cx} {a b c : Expr} {ta tb tc : TE} {pos : Pos}
theorem fin_bl {pins : List (Addr × Obj)} {σ : St} {H : Hp} {s : Shared} {Q : VK} {k k' : Bool} (I : Inv X pins σ H s) (q : Q (.bl k) H) (e : k = k') : EP X pins σ Q (.bool k') s := by
  subst e
  exact ⟨.bl k, H, I, rfl, q⟩
theorem op_eq : OpR X (compareOp .Eq) rEq := by
  intro pins s σ H x y v u Q I rx ry h
  obtain ⟨hs, q⟩ := h
  cases x with
  | non =>
    cases rx
    cases y with
    | non => cases ry; exact PySem.EqNone.eq_none_none (fin_bl I q (by simp))
    | bl j => cases ry; exact PySem.EqNone.eq_none_bool (fin_bl I q (by simp))
    | int j => obtain ⟨t', rfl⟩ := ry; exact PySem.EqNone.eq_none_int (fin_bl I q (by simp))
    | str j => obtain ⟨t', rfl⟩ := ry; exact PySem.EqNone.eq_none_str (fin_bl I q (by simp))
    | _ => exact absurd (show false = true from hs) Bool.false_ne_true
  | bl i =>
    cases rx
    cases y with
    | non => cases ry; exact PySem.EqNone.eq_bool_none (fin_bl I q (by simp))
    | bl j => cases ry; exact eq_bool (fin_bl I q dec_bl)
    | str j => obtain ⟨t', rfl⟩ := ry; exact PySem.EqMixed.eq_bool_str (fin_bl I q (by simp))
    | _ => exact absurd (show false = true from hs) Bool.false_ne_true
  | int i =>
    obtain ⟨t, rfl⟩ := rx
    cases y with
    | non => cases ry; exact PySem.EqNone.eq_int_none (fin_bl I q (by simp))
    | int j => obtain ⟨t', rfl⟩ := ry; exact eq_int (fin_bl I q dec_int)
    | str j => obtain ⟨t', rfl⟩ := ry; exact PySem.EqMixed.eq_int_str (fin_bl I q (by simp))
    | _ => exact absurd (show false = true from hs) Bool.false_ne_true
  | str i =>
    obtain ⟨t, rfl⟩ := rx
    cases y with
    | non => cases ry; exact PySem.EqNone.eq_str_none (fin_bl I q (by simp))
    | bl j => cases ry; exact PySem.EqMixed.eq_str_bool (fin_bl I q (by simp))
    | int j => obtain ⟨t', rfl⟩ := ry; exact PySem.EqMixed.eq_str_int (fin_bl I q (by simp))
    | str j => obtain ⟨t', rfl⟩ := ry; exact eq_str (fin_bl I q dec_str)
    | _ => exact absurd (show false = true from hs) Bool.false_ne_true
  | byt i =>
    obtain ⟨t, rfl⟩ := rx
    cases y with
    | byt j => obtain ⟨t', rfl⟩ := ry; exact PySem.W.eq_bytes (fin_bl I q dec_byt)
    | _ => exact absurd (show false = true from hs) Bool.false_ne_true
  | _ => cases y <;> exact absurd (show false = true from hs) Bool.false_ne_true
theorem op_ne : OpR X (compareOp .NotEq) rNe := by
  intro pins s σ H x y v u Q I rx ry h
  obtain ⟨hs, q⟩ := h
  cases x with
  | non =>
    cases rx
    cases y with
    | non => cases ry; exact PySem.EqNone.ne_none_none (fin_bl I q (by simp))
    | bl j => cases ry; exact PySem.EqNone.ne_none_bool (fin_bl I q (by simp))
    | int j => obtain ⟨t', rfl⟩ := ry; exact PySem.EqNone.ne_none_int (fin_bl I q (by simp))
    | str j => obtain ⟨t', rfl⟩ := ry; exact PySem.EqNone.ne_none_str (fin_bl I q (by simp))
    | _ => exact absurd (show false = true from hs) Bool.false_ne_true
  | bl i =>
    cases rx
    cases y with
    | non => cases ry; exact PySem.EqNone.ne_bool_none (fin_bl I q (by simp))
    | bl j => cases ry; exact ne_bool (fin_bl I q (congrArg not dec_bl))
    | str j => obtain ⟨t', rfl⟩ := ry; exact PySem.EqMixed.ne_bool_str (fin_bl I q (by simp))
    | _ => exact absurd (show false = true from hs) Bool.false_ne_true
  | int i =>
    obtain ⟨t, rfl⟩ := rx
    cases y with
    | non => cases ry; exact PySem.EqNone.ne_int_none (fin_bl I q (by simp))
    | int j => obtain ⟨t', rfl⟩ := ry; exact ne_int (fin_bl I q (congrArg not dec_int))
    | str j => obtain ⟨t', rfl⟩ := ry; exact PySem.EqMixed.ne_int_str (fin_bl I q (by simp))
    | _ => exact absurd (show false = true from hs) Bool.false_ne_true
  | str i =>
    obtain ⟨t, rfl⟩ := rx
    cases y with
    | non => cases ry; exact PySem.EqNone.ne_str_none (fin_bl I q (by simp))
    | bl j => cases ry; exact PySem.EqMixed.ne_str_bool (fin_bl I q (by simp))
    | int j => obtain ⟨t', rfl⟩ := ry; exact PySem.EqMixed.ne_str_int (fin_bl I q (by simp))
    | str j => obtain ⟨t', rfl⟩ := ry; exact ne_str (fin_bl I q (congrArg not dec_str))
    | _ => exact absurd (show false = true from hs) Bool.false_ne_true
  | byt i =>
    obtain ⟨t, rfl⟩ := rx
    cases y with
    | byt j => obtain ⟨t', rfl⟩ := ry; exact PySem.W.ne_bytes (fin_bl I q (congrArg not dec_byt))
    | _ => exact absurd (show false = true from hs) Bool.false_ne_true
  | _ => cases y <;> exact absurd (show false = true from hs) Bool.false_ne_true

theorem op_lt : OpR X (compareOp .Lt) (rI0 fun i j => .bl (decide (i < j))) := opB0 fun _ _ _ _ _ _ _ q => lt_int q
theorem op_le : OpR X (compareOp .LtE) (rI0 fun i j => .bl (decide (i ≤ j))) := opB0 fun _ _ _ _ _ _ _ q => le_int q
theorem op_gt : OpR X (compareOp .Gt) (rI0 fun i j => .bl (decide (j < i))) := opB0 fun _ _ _ _ _ _ _ q => gt_int q




theorem nomark (b : Expr) {op : CmpOp} (h : op ≠ .In := by decide) (h2 : op ≠ .NotIn := by decide) : behindInMarks op b = false := by
  have e1 : (op == CmpOp.In) = false := by cases op <;> first | rfl | exact absurd rfl h
  have e2 : (op == CmpOp.NotIn) = false := by cases op <;> first | rfl | exact absurd rfl h2
  cases b <;> simp [behindInMarks, e1, e2]
/-- a comparison as a value; hm: nomark b, or (for in, not in) by with_unfolding_all rfl -/
theorem pe_cmpR {op : CmpOp} {r : R2} (ho : OpR X (compareOp op) r) (ha : PE X a ta) (hb : PE X b tb) (hm : behindInMarks op b = false) : PE X (.Compare a [op] [b] pos) (tOp r ta tb) := by
  intro pins s σ H Q I h
  exact wpAny_Compare1 (binT ha hb I h fun v u s2 x y H2 I2 rx ry q => ho pins s2 σ H2 x y v u Q I2 rx ry q) hm
/-- a reading of a value as a test -/
def tTest (t : TE) : TT := fun σ H Q => t σ H fun x H' => ∃ k, x = .bl k ∧ Q k H'
theorem pt_cmpR {op : CmpOp} {r : R2} (ho : OpR X (compareOp op) r) (ha : PE X a ta) (hb : PE X b tb) (hm : behindInMarks op b = false) : PT X (.Compare a [op] [b] pos) (tTest (tOp r ta tb)) := by
  intro pins s σ H Q I h
  refine wpAny_isTrue_Compare1 (thn (ha pins s σ H _ I h) fun v s1 ⟨x, H1, I1, r1, q1⟩ => thn (hb pins s1 σ H1 _ I1 q1) fun u s2 ⟨y, H2, I2, r2, q2⟩ =>
    thn (ho pins s2 σ H2 x y v u _ I2 r1 r2 q2) fun c s3 ⟨z, H3, I3, r3, k, e, q3⟩ => ?_) hm
  subst e
  cases r3
  exact wpAny_truthy_bool ⟨H3, I3, q3⟩
/-- a op1 b op2 c -/
def tChain (r r' : R2) (ta tb tc : TE) : TE := fun σ H Q => ta σ H fun x H1 => tb σ H1 fun y H2 => r x y H2 fun z H3 => ∃ k, z = .bl k ∧
  (if k = true then tc σ H3 fun w' H4 => r' y w' H4 Q else Q (.bl false) H3)
theorem pt_chain {op op' : CmpOp} {r r' : R2} (ho : OpR X (compareOp op) r) (ho' : OpR X (compareOp op') r') (ha : PE X a ta) (hb : PE X b tb) (hc : PE X c tc)
    (hm : lastMarks [op, op'] [b, c] = false := by with_unfolding_all rfl) : PT X (.Compare a [op, op'] [b, c] pos) (tTest (tChain r r' ta tb tc)) := by
  intro pins s σ H Q I h
  refine isTrue_chain (thn (ha pins s σ H _ I h) fun v s1 ⟨x, H1, I1, r1, q1⟩ => test_link (thn (hb pins s1 σ H1 _ I1 q1) fun u s2 ⟨y, H2, I2, r2, q2⟩ =>
    thn (ho pins s2 σ H2 x y v u _ I2 r1 r2 q2) fun d s3 ⟨z, H3, I3, r3, k, e, q3⟩ => ?_)) hm
  subst e
  cases r3
  refine wpAny_truthy_bool ?_
  cases k with
  | false =>
    obtain ⟨k', e', q'⟩ := q3
    cases e'
    exact ite_ff ⟨H3, I3, q'⟩
  | true =>
    refine ite_tt (test_last (thn (hc pins s3 σ H3 _ I3 q3) fun w' s4 ⟨z', H4, I4, r4, q4⟩ => thn (ho' pins s4 σ H4 y z' u w' _ I4 r2 r4 q4) fun d' s5 ⟨z2, H5, I5, r5, k2, e2, q5⟩ => ?_))
    subst e2
    cases r5
    exact wpAny_truthy_bool ⟨H5, I5, q5⟩

/-! ### truth -/
/-- a value's truth by the abstract heap -/
def TruV (K : PySem.W.Frag) (x : V) (H : Hp) (k : Bool) : Prop :=
  match x with
  | .non => k = false
  | .bl b => k = b
  | .int i => k = (i != 0)
  | .str y => y.length ≤ sizeLine ∧ k = ((y.length : Int) != 0)
  | .byt y => y.size ≤ sizeLine ∧ k = ((y.size : Int) != 0)
  | .ref p => (∃ xs, SqL K H p xs ∧ k = !xs.isEmpty) ∨ (∃ xs, SqT K H p xs ∧ k = !xs.isEmpty) ∨ ∃ kvs, H p = some (.dK kvs) ∧ k = !kvs.isEmpty
  | _ => False
theorem isEmpty_kv {κ : Type} {kvs : List (κ × V)} {vs : List (κ × Value)} (r : KV kvs vs) : (!vs.isEmpty) = !kvs.isEmpty := by
  cases r <;> rfl
theorem isEmpty_of {xs : List V} {its : List Value} (r : Vals xs its) : (!its.toArray.isEmpty) = !xs.isEmpty := by
  cases r <;> simp
theorem line63 : (sizeLine : Nat) < 2 ^ 63 := by rw [sizeLine_eq]; decide
theorem tru_ok : TruR X (fun x H Q => ∃ k, TruV X.K x H k ∧ Q k H) := by
  intro pins s σ H x v Q I rx h
  obtain ⟨k, e, q⟩ := h
  have hl := line63
  have hs : sizeLine = 16777216 := sizeLine_eq
  cases x with
  | non =>
    cases rx
    have e' : k = false := e
    subst e'
    exact truthy_none ⟨H, I, q⟩
  | bl b =>
    cases rx
    have e' : k = b := e
    subst e'
    exact wpAny_truthy_bool ⟨H, I, q⟩
  | int i =>
    obtain ⟨t, rfl⟩ := rx
    have e' : k = (i != 0) := e
    subst e'
    exact PySem.P.truthy_int ⟨H, I, q⟩
  | str y =>
    obtain ⟨t, rfl⟩ := rx
    obtain ⟨hy, e'⟩ : y.length ≤ sizeLine ∧ k = ((y.length : Int) != 0) := e
    subst e'
    exact PySem.P.truthy_str (by omega) ⟨H, I.tok _, q⟩
  | byt y =>
    obtain ⟨t, rfl⟩ := rx
    obtain ⟨hy, e'⟩ : y.size ≤ sizeLine ∧ k = ((y.size : Int) != 0) := e
    subst e'
    exact PySem.W.truthy_bytes (by omega) ⟨H, I.tok _, q⟩
  | ref p =>
    cases rx
    have e' : (∃ xs, SqL X.K H p xs ∧ k = !xs.isEmpty) ∨ (∃ xs, SqT X.K H p xs ∧ k = !xs.isEmpty) ∨ ∃ kvs, H p = some (.dK kvs) ∧ k = !kvs.isEmpty := e
    rcases e' with ⟨xs, hx, e'⟩ | ⟨xs, hx, e'⟩ | ⟨kvs, hx, e'⟩
    · subst e'
      obtain ⟨its, r, pl, hz⟩ := I.list hx
      have hlen := r.length
      exact wpAny_truthy_list pl.isList (by simp only [List.size_toArray]; omega) ⟨H, I.tok _, by rw [isEmpty_of r]; exact q⟩
    · subst e'
      obtain ⟨its, r, pl, hz⟩ := I.tuple hx
      have hlen := r.length
      exact truthy_tuple pl (by simp only [List.size_toArray]; omega) ⟨H, I.tok _, by rw [isEmpty_of r]; exact q⟩
    · subst e'
      obtain ⟨hz, hS, vs, r, m⟩ : kvs.length ≤ sizeLine ∧ (p == sysModules) = false ∧ ∃ vs, KV kvs vs ∧ s.heap.DictOf (mixKind X.prog X.w) p vs := I.hok p _ hx
      have hlen : kvs.length = vs.length := Paired.length r
      exact wpAny_truthy_dict hS m (by omega) ⟨H, I.tok _, by rw [isEmpty_kv r]; exact q⟩
  | _ => exact (show False from e).elim
/-- any expression whose test is its value's truth (a name, a call, a subscript, a field ..: he by fun _ => rfl) -/
theorem pt_truth (ha : PE X a ta) (he : ∀ whole, isTrue a X.env whole = (do let v ← whole; standAt a.pos; holding [v] (truthy v))) :
    PT X a (fun σ H Q => ta σ H fun x H' => ∃ k, TruV X.K x H' k ∧ Q k H') := by
  intro pins s σ H Q I h
  exact isTrue_plain (thn (ha pins s σ H _ I h) fun v s1 ⟨x, H1, I1, r1, q1⟩ => tru_ok pins s1 σ H1 x v Q I1 r1 q1) (he _)

/-! ### strs and bytes -/


/-! ### scalar builtins, by CallR -/
theorem vals1 {x : V} {us : List Value} (r : Vals [x] us) : ∃ u, us = [u] ∧ RelV x u := by
  cases r with
  | cons r1 r2 => cases r2; exact ⟨_, rfl, r1⟩
theorem call_ord : CallR X (.builtin "ord") (fun xs H Q => ∃ x, xs = [.str x] ∧ x.length = 1 ∧ Q (.int (x.cps.getD 0 0 : Nat)) H) := by
  intro pins s σ H xs us Q I r h
  obtain ⟨x, rfl, hz, q⟩ := h
  obtain ⟨u, rfl, t, rfl⟩ := vals1 r
  exact ord_of_one hz ⟨.int _, H, I.tok _, ⟨_, rfl⟩, q⟩
end
end L2

namespace L2
open PySem PySem.Spec PyProof.Rows

/-! ### an instance, its attributes a map -/
structure ObjM (h : Heap) (x dx C : Addr) (mA : Str → Option Value) : Prop where
  obj : h.get? x = some (PySem.W.instObj C dx)
  ns : h.Ns1 dx mA
  ne : dx ≠ x

theorem lookIn_ns {h : Heap} {dx : Addr} {mA : Str → Option Value} (n : h.Ns1 dx mA) : ∃ od, h.get? dx = some od ∧ ∀ name, PySem.W.lookIn name od = some (mA name) := by
  obtain ⟨o, es, ep, ho, hd, hk, _, hm⟩ := n
  refine ⟨o, ho, fun name => ?_⟩
  have e := hm name
  unfold nsFind findBy at e
  rw [← Array.find?_toList] at e
  unfold PySem.W.lookIn
  rw [hd]
  dsimp only
  split
  · rename_i y q
    rw [q] at e
    exact congrArg some e
  · rename_i q
    rw [q] at e
    have a : es.toList.any (·.refKey) = false := by
      rw [List.any_eq_false]
      intro y hy
      obtain ⟨z, t, hkey⟩ := hk y (Array.mem_toList_iff.mp hy)
      simp [DictEntry.refKey, hkey]
    have a' : ¬ es.toList.any (·.refKey) = true := by rw [a]; exact Bool.false_ne_true
    rw [if_neg a']
    exact congrArg some e

theorem ObjM.look {h : Heap} {x dx C : Addr} {mA : Str → Option Value} (I : ObjM h x dx C mA) : ∃ od, PySem.W.InstAt h x (PySem.W.instObj C dx) C (some od) ∧ ∀ name, PySem.W.lookIn name od = some (mA name) :=
  let ⟨od, ho, hl⟩ := lookIn_ns I.ns
  ⟨od, ⟨I.obj, rfl, rfl, ho⟩, hl⟩

section
variable {prog : Program} {w : World} {A : Around} {E : Value → Shared → Prop} {s : Shared} {K : PySem.W.Frag} {x dx C f : Addr} {mA : Str → Option Value} {name : Str} {v : Value}

theorem get_map {expr : Bool} {Q : Value → Shared → Prop} (X : K.In s.heap) (I : ObjM s.heap x dx C mA) (hg : PySem.W.plainGet K C name = true) (hh : PySem.W.hasDictIn K C = true)
    (ha : PySem.W.findIn K (.ref C) name = some none) (hv : mA name = some v) (hv' : PySem.W.handedIn v = true) (h : Q v { s with toks := s.toks + 1 }) :
    wpAny (model prog w) A (getAttr (.ref x) name expr) Q E s := by
  obtain ⟨od, J, hl⟩ := I.look
  exact PySem.W.get_value X J (PySem.W.plainGet_of hg).1 (PySem.W.findObj_own hh ha rfl (by rw [hl, hv])) hv' h


theorem get_meth {pl : Sem Bool} {Q : Value × List Value → Shared → Prop} (X : K.In s.heap) (I : ObjM s.heap x dx C mA) (hg : PySem.W.plainGet K C name = true)
    (hf : PySem.W.findIn K (.ref C) name = some (some (.ref f))) (ht : PySem.W.isFn K (.ref f) = true) (hv : mA name = none) (h : Q (.ref f, [.ref x]) s) :
    wpAny (model prog w) A (getMethod (.ref x) name pl) Q E s := by
  obtain ⟨od, J, hl⟩ := I.look
  exact PySem.W.method_fn X J (PySem.W.plainGet_of hg).1 (PySem.W.plainGet_of hg).2 hf (beq_iff_eq.mp ht) (by show (PySem.W.lookIn name od).map (·.isSome) = some false; rw [hl, hv]; rfl) h

theorem set_map {ns : List Str} {Q : Unit → Shared → Prop} (X : K.In s.heap) (I : ObjM s.heap x dx C mA)
    (hs : PySem.W.findIn K (.ref C) "__setattr__" = some (some (.builtin "object.__setattr__"))) (hp : PySem.W.plainOver K C = true) (ht : PySem.W.takerIn K C name = some none) (hh : PySem.W.hasDictIn K C = true)
    (hw : PySem.Within mA ns) (hsz : ns.length ≤ sizeLine)
    (h : ∀ h', ObjM h' x dx C (fun y => if y = name then some v else mA y) → Heap.SameBut dx s.heap h' → Q () { s with heap := h', toks := s.toks + 2 }) :
    wpAny (model prog w) A (setAttr (.ref x) name v) Q E s := by
  obtain ⟨od, J, hl⟩ := I.look
  refine PySem.W.set_plain X J hs (PySem.W.osa_open (s := { s with toks := s.toks + 1 }) (r := none) X J hp ht fun b => ?_)
  obtain ⟨cd, hc, hd'⟩ := PySem.W.any_some hh
  have hx : s.heap.get? x = some ⟨.ref C, some dx, .plain, #[]⟩ := I.obj
  refine wpAny_bind (wpAny_pure (wpAny_bind (wpAny_bind (wpAny_loadPart hx (wpAny_bind (PySem.W.Looks.here (s := { s with toks := s.toks + 1 }) (PySem.W.looks_clsIn X hc) ?_))))))
  rw [hd']
  refine wpAny_pure (a := some dx) (wpAny_bind (wpAny_pure (wpAny_bind ?_)))
  refine wpAny_nsSet1 (s := { s with toks := s.toks + 1 }) I.ns fun h' hn2 hs2 => ?_
  obtain ⟨oD, esD, epD, hoD, hdD, hcD⟩ := hn2.count (PySem.Within.cons name v hw)
  refine wpAny_bind (wpAny_lookBehind hoD (by rw [hdD]; exact pastItsLine_dict (Nat.le_trans hcD (by rw [List.length_cons]; omega))) ?_)
  exact wpAny_pure (h _ ⟨(hs2.2 _ (Ne.symm I.ne)).trans I.obj, hn2, I.ne⟩ hs2)

/-- C(..): the dict at the heap's end, the instance behind it; then its __init__ -/
theorem make_map {R : Result → Shared → Prop} {vs : List Value} {kw : List (Str × Value)} (X : K.In s.heap) (hm : PySem.W.makesIn K C = true)
    (hi : PySem.W.findIn K (.ref C) "__init__" = some (some (.ref f))) (hf : PySem.W.typeIn K (.ref f) = some (.type "function"))
    (h : codeAny (model prog w) (A.under (.builtin "type.__call__" ⟨.ref C :: vs, kw⟩)) (.call (.ref f) ⟨.ref (s.heap.objs.size + 1) :: vs, kw⟩) (PySem.W.InitBack (s.heap.objs.size + 1) R)
      { s with heap := (s.heap.push PySem.W.emptyDict).push (PySem.W.instObj C s.heap.objs.size) }) :
    codeAny (model prog w) A (.call (.ref C) ⟨vs, kw⟩) R s := by
  obtain ⟨hh, g, d, t, os⟩ := s
  exact PySem.W.make_core (PySem.W.makes_of X hm) (PySem.W.looks_findIn X hi) (fun self => PySem.W.bind_fn X self hf) (.inl rfl) h
end

/-! ### the attributes as a list of pairs -/
def putF (f : Str) (v : V) : List (Str × V) → List (Str × V)
  | [] => [(f, v)]
  | (g, x) :: r => if g = f then (g, v) :: r else (g, x) :: putF f v r
theorem lookup_putF (f g : Str) (v : V) : ∀ fs : List (Str × V), (putF f v fs).lookup g = if g = f then some v else fs.lookup g
  | [] => by
    show List.lookup g [(f, v)] = _
    by_cases h : g = f
    · have hb : (g == f) = true := beq_iff_eq.mpr h
      simp only [List.lookup, hb, if_pos h]
    · have hb : (g == f) = false := beq_eq_false_iff_ne.mpr h
      simp only [List.lookup, hb, if_neg h]
  | (k, x) :: r => by
    have ih := lookup_putF f g v r
    rw [show putF f v ((k, x) :: r) = (if k = f then (k, v) :: r else (k, x) :: putF f v r) from rfl]
    by_cases hk : k = f
    · rw [if_pos hk]
      by_cases h : g = k
      · have hb : (g == k) = true := beq_iff_eq.mpr h
        simp only [List.lookup, hb, if_pos (h.trans hk)]
      · have hb : (g == k) = false := beq_eq_false_iff_ne.mpr h
        simp only [List.lookup, hb, if_neg (fun e : g = f => h (e.trans hk.symm))]
    · rw [if_neg hk]
      by_cases h : g = k
      · have hb : (g == k) = true := beq_iff_eq.mpr h
        simp only [List.lookup, hb, if_neg (fun e : g = f => hk (h.symm.trans e))]
      · have hb : (g == k) = false := beq_eq_false_iff_ne.mpr h
        simp only [List.lookup, hb]
        exact ih
theorem keys_putF (f : Str) (v : V) : ∀ fs : List (Str × V), f ∈ (putF f v fs).map (·.1) ∧ ∀ g, g ∈ fs.map (·.1) → g ∈ (putF f v fs).map (·.1)
  | [] => ⟨by simp [putF], fun g h => by simp at h⟩
  | (k, x) :: r => by
    obtain ⟨i1, i2⟩ := keys_putF f v r
    rw [show putF f v ((k, x) :: r) = (if k = f then (k, v) :: r else (k, x) :: putF f v r) from rfl]
    by_cases hk : k = f
    · rw [if_pos hk]
      subst hk
      exact ⟨by simp, fun g h => by simpa using h⟩
    · rw [if_neg hk]
      refine ⟨?_, fun g h => ?_⟩
      · rw [List.map_cons]
        exact List.mem_cons_of_mem _ i1
      · rw [List.map_cons] at h ⊢
        rcases List.mem_cons.mp h with e | e
        · exact List.mem_cons.mpr (.inl e)
        · exact List.mem_cons_of_mem _ (i2 g e)
theorem length_putF (f : Str) (v : V) : ∀ fs : List (Str × V), (putF f v fs).length ≤ fs.length + 1
  | [] => by simp [putF]
  | (k, x) :: r => by
    have ih := length_putF f v r
    rw [show putF f v ((k, x) :: r) = (if k = f then (k, v) :: r else (k, x) :: putF f v r) from rfl]
    by_cases hk : k = f
    · rw [if_pos hk, List.length_cons, List.length_cons]; omega
    · rw [if_neg hk, List.length_cons, List.length_cons]; omega

theorem RelO.some_of {v : V} {o : Option Value} (r : RelO (some v) o) : ∃ u, o = some u ∧ RelV v u := by
  cases o with
  | none => exact (show False from r).elim
  | some u => exact ⟨u, rfl, r⟩
theorem RelO.none_of {o : Option Value} (r : RelO none o) : o = none := by
  cases o with
  | none => rfl
  | some u => exact (show False from r).elim
theorem handed_of {v : V} {u : Value} (r : RelV v u) : PySem.W.handedIn u = true := by
  cases v with
  | non => cases (show u = Value.none from r); rfl
  | bl b => cases (show u = Value.bool b from r); rfl
  | int i => obtain ⟨t, e⟩ := (show ∃ t, u = Value.int i t from r); cases e; rfl
  | str x => obtain ⟨t, e⟩ := (show ∃ t, u = Value.str x t from r); cases e; rfl
  | byt b => obtain ⟨t, e⟩ := (show ∃ t, u = Value.bytes b t from r); cases e; rfl
  | flt b => obtain ⟨t, e⟩ := (show ∃ t, u = Value.float b t from r); cases e; rfl
  | ref a => cases (show u = Value.ref a from r); rfl
  | ty n => cases (show u = Value.type n from r); rfl

section
variable {P : Program} {w : World} {H H' : Hp} {h h' : Heap} {a C dx : Addr} {fs fs' : List (Str × V)}
theorem ins_get (hok : HOk P w H h) (e : H a = some (.ins C dx fs)) : ∃ mA, ObjM h a dx C mA ∧ (∀ f, RelO (fs.lookup f) (mA f)) ∧ PySem.Within mA (fs.map (·.1)) ∧ fs.length ≤ 1000 ∧ H dx = some (.own a) := by
  obtain ⟨d, z, ne, ob, mA, n, r, q⟩ := (show ObjOk P w H h a (.ins C dx fs) from hok a _ e)
  exact ⟨mA, ⟨ob, n, ne⟩, r, q, z, d⟩
end

/-! ### what of the text a class must have -/
structure Cls (K : PySem.W.Frag) (C : Addr) : Prop where
  pg : PySem.W.plainGet K C Str.empty = true
  hd : PySem.W.hasDictIn K C = true
  po : PySem.W.plainOver K C = true
  sa : PySem.W.findIn K (.ref C) "__setattr__" = some (some (.builtin "object.__setattr__"))
theorem Cls.get {K : PySem.W.Frag} {C : Addr} (c : Cls K C) (f : Str) : PySem.W.plainGet K C f = true := c.pg
/-- no class of it has the name -/
def NoAttr (K : PySem.W.Frag) (C : Addr) (f : Str) : Prop := PySem.W.findIn K (.ref C) f = some none
theorem NoAttr.taker {K : PySem.W.Frag} {C : Addr} {f : Str} (n : NoAttr K C f) : PySem.W.takerIn K C f = some none := by
  unfold PySem.W.takerIn
  rw [show PySem.W.findIn K (.ref C) f = some none from n]
  rfl
/-- a method: a plain def of the class or of one above it -/
structure Meth (K : PySem.W.Frag) (C : Addr) (m : Str) (f : Addr) : Prop where
  at_ : PySem.W.findIn K (.ref C) m = some (some (.ref f))
  fn : PySem.W.isFn K (.ref f) = true
  kp : PySem.W.keepIn K (.ref f) = true

section
variable {X : Cx} {pins : List (Addr × Obj)} {σ : St} {H : Hp} {s : Shared} {a C dx : Addr} {fs : List (Str × V)} {f : Str} {v : V} {A : Around} {E : Value → Shared → Prop}

theorem getattr_ok {b : Bool} {Q : Value → Shared → Prop} (I : Inv X pins σ H s) (e : H a = some (.ins C dx fs)) (c : Cls X.K C) (n : NoAttr X.K C f) (l : fs.lookup f = some v)
    (h : ∀ u s', Inv X pins σ H s' → RelV v u → Q u s') : wpAny (model X.prog X.w) A (getAttr (.ref a) f b) Q E s := by
  obtain ⟨mA, O, r, _, _, _⟩ := ins_get I.hok e
  obtain ⟨u, hu, ru⟩ := RelO.some_of (v := v) (o := mA f) (by rw [← l]; exact r f)
  exact get_map I.kIn O (c.get f) c.hd n hu (handed_of ru) (h u _ (I.tok _) ru)


theorem getmeth_ok {m : Str} {g : Addr} {pl : Sem Bool} {Q : Value × List Value → Shared → Prop} (I : Inv X pins σ H s) (e : H a = some (.ins C dx fs)) (c : Cls X.K C) (k : Meth X.K C m g) (l : fs.lookup m = none)
    (h : Q (.ref g, [.ref a]) s) : wpAny (model X.prog X.w) A (getMethod (.ref a) m pl) Q E s := by
  obtain ⟨mA, O, r, _, _, _⟩ := ins_get I.hok e
  have hn : mA m = none := RelO.none_of (by rw [← l]; exact r m)
  exact get_meth I.kIn O (c.get m) k.at_ k.fn hn h

theorem setattr_ok {y : V} {u : Value} {Q : Unit → Shared → Prop} (I : Inv X pins σ H s) (e : H a = some (.ins C dx fs)) (c : Cls X.K C) (n : NoAttr X.K C f) (hl : fs.length < 1000) (ry : RelV y u)
    (h : ∀ s', Inv X pins σ (upd H a (.ins C dx (putF f y fs))) s' → Q () s') : wpAny (model X.prog X.w) A (setAttr (.ref a) f u) Q E s := by
  obtain ⟨mA, O, r, wi, _, ho⟩ := ins_get I.hok e
  have hz : (fs.map (·.1)).length ≤ sizeLine := by rw [List.length_map, sizeLine_eq]; omega
  refine set_map I.kIn O c.sa c.po n.taker c.hd wi hz fun h' O' sb => h _ ?_
  have hd : ∃ o, h'.get? dx = some o := let ⟨o, _, _, e', _⟩ := O'.ns; ⟨o, e'⟩
  refine I.write (x := a) (e := dx) (by rw [e]; exact True.intro) (.inr ho) (fun b q hb z => (sb.2 b hb).trans z) hd ?_
  refine ⟨by rw [upd_ne O.ne]; exact ho, ?_, O.ne, O'.obj, _, O'.ns, fun g => ?_, fun g hg => ?_⟩
  · have := length_putF f y fs; omega
  · show RelO ((putF f y fs).lookup g) (if g = f then some u else mA g)
    rw [lookup_putF]
    by_cases q : g = f
    · rw [if_pos q, if_pos q]; exact ry
    · rw [if_neg q, if_neg q]; exact r g
  · by_cases q : g = f
    · rw [q]; exact (keys_putF f y fs).1
    · refine (keys_putF f y fs).2 g (wi g fun z => hg ?_)
      show (if g = f then some u else mA g) = none
      rw [if_neg q]; exact z

/-- a new instance, tracked, without attributes -/
theorem Inv.made (I : Inv X pins σ H s) : Inv X pins σ (upd (upd H s.heap.objs.size (.own (s.heap.objs.size + 1))) (s.heap.objs.size + 1) (.ins C s.heap.objs.size []))
    { s with heap := (s.heap.push PySem.W.emptyDict).push (PySem.W.instObj C s.heap.objs.size) } := by
  have e1 : (s.heap.push PySem.W.emptyDict).get? s.heap.objs.size = some PySem.W.emptyDict := Heap.get?_push_size s.heap rfl
  have e2 : ((s.heap.push PySem.W.emptyDict).push (PySem.W.instObj C s.heap.objs.size)).get? (s.heap.objs.size + 1) = some (PySem.W.instObj C s.heap.objs.size) := by
    have := Heap.get?_push_size (s.heap.push PySem.W.emptyDict) (o := PySem.W.instObj C s.heap.objs.size) rfl
    rwa [Heap.size_push] at this
  have e3 : (s.heap.push PySem.W.emptyDict).Ns s.heap.objs.size (fun _ => none) := ⟨PySem.W.emptyDict, #[], _, e1, rfl, (fun e he => absurd he (by simp)), fun _ => rfl⟩
  have I1 := I.laid (a := s.heap.objs.size) (o := .own (s.heap.objs.size + 1)) (h' := s.heap.push PySem.W.emptyDict) (t' := s.toks) (fun b u q => Heap.get?_push_of_some _ q) (Nat.le_refl _) ⟨_, e1⟩
  refine I1.laid (a := s.heap.objs.size + 1) (o := .ins C s.heap.objs.size []) (t' := s.toks) (fun b u q => Heap.get?_push_of_some _ q) (Nat.le_of_eq (Heap.size_push _ _)) ?_
  have ne : s.heap.objs.size ≠ s.heap.objs.size + 1 := Nat.ne_of_lt (Nat.lt_succ_self _)
  refine ⟨by rw [upd_ne ne, upd_same], Nat.zero_le _, ne, e2, fun _ => none, (Heap.Ns1.of_empty e3).at fun o q => Heap.get?_push_of_some _ q, fun _ => True.intro, fun y hy => absurd rfl hy⟩

/-- e.f where nothing but the object is asked: through attributeBase (super) and the last hold -/
theorem attr_of {prog : Program} {w : World} {env : Env} {e : Expr} {f : Str} {pos : Pos} {s : Shared} {Q : Value → Shared → Prop} (hb : attributeBase e f env (eval e env) = eval e env)
    (h : wpAny (model prog w) A (eval e env) (fun o s₁ => wpAny (model prog w) A (getAttr o f true) Q E s₁) E s) : wpAny (model prog w) A (eval (.Attribute e f pos) env) Q E s :=
  Attribute_any_ h (by rw [arm_eval_Attribute, hb])
end

/-! ### readings and rules -/
/-- e.f, an attribute of the instance -/
def tFld (K : PySem.W.Frag) (ta : TE) (f : Str) : TE := fun σ H Q => ta σ H fun x H1 => ∃ a C dx fs v, x = .ref a ∧ H1 a = some (.ins C dx fs) ∧ Cls K C ∧ NoAttr K C f ∧ fs.lookup f = some v ∧ Q v H1
/-- e.f = value -/
def sFld (K : PySem.W.Frag) (ta tv : TE) (f : Str) : TS := fun D σ H => tv σ H fun y H1 => ta σ H1 fun x H2 => ∃ a C dx fs, x = .ref a ∧ H2 a = some (.ins C dx fs) ∧ Cls K C ∧ NoAttr K C f ∧ fs.length < 1000 ∧
  D.nx σ (upd H2 a (.ins C dx (putF f y fs)))
/-- an augmented operator on two values -/
def InOp (X : Cx) (op : Operator) (rd : V → V → Hp → VK → Prop) : Prop :=
  ∀ (pins : List (Addr × Obj)) (s : Shared) (σ : St) (H : Hp) (x y : V) (u v : Value) (Q : VK), Inv X pins σ H s → RelV x u → RelV y v → rd x y H Q → wpAny (model X.prog X.w) X.A (inplaceOp op u v) (EP X pins σ Q) X.xe s
/-- e.f op= value -/
def sFldAug (K : PySem.W.Frag) (ta tv : TE) (rd : V → V → Hp → VK → Prop) (f : Str) : TS := fun D σ H => ta σ H fun x H1 => ∃ a C dx fs v, x = .ref a ∧ H1 a = some (.ins C dx fs) ∧ Cls K C ∧ NoAttr K C f ∧ fs.lookup f = some v ∧
  tv σ H1 fun y H2 => rd v y H2 fun z H3 => ∃ dx' fs', H3 a = some (.ins C dx' fs') ∧ fs'.length < 1000 ∧ D.nx σ (upd H3 a (.ins C dx' (putF f z fs')))

section
variable {X : Cx} {o e value : Expr} {f : Str} {pos pos' tpos : Pos} {ta tv : TE}
theorem pe_fld (he : PE X e ta) (hb : attributeBase e f X.env (eval e X.env) = eval e X.env) : PE X (.Attribute e f pos) (tFld X.K ta f) := by
  intro pins s σ H Q I h
  refine attr_of hb (thn (he pins s σ H _ I h) fun u s1 ⟨x, H1, I1, rx, a, C, dx, fs, v, ex, ea, c, n, l, q⟩ => ?_)
  subst ex
  obtain rfl : u = Value.ref a := rx
  exact getattr_ok I1 ea c n l fun u' s2 I2 ru => ⟨v, H1, I2, ru, q⟩
theorem ps_fld (ha : PE X o ta) (hv : PE X value tv) (hs : swapsWith value (some (.Attribute o f pos')) pos.line X.env = pure false) : PS X (.Assign [.Attribute o f pos'] value pos) (sFld X.K ta tv f) := by
  intro pins s σ H D I h
  refine plainObj_wpAny_Assign_Attribute (thn (hv pins s σ H _ I h) fun u s1 ⟨y, H1, I1, ry, q⟩ => thn (ha pins s1 σ H1 _ I1 q) fun ov s2 ⟨x, H2, I2, rx, a, C, dx, fs, ex, ea, c, n, l, q2⟩ => ?_) hs
  subst ex
  obtain rfl : ov = Value.ref a := rx
  exact setattr_ok I2 ea c n l ry fun s3 I3 => ⟨σ, _, I3, q2⟩
theorem ps_fldaug {op : Operator} {rd : V → V → Hp → VK → Prop} (ha : PE X o ta) (hv : PE X value tv) (hop : InOp X op rd) : PS X (.AugAssign (.Attribute o f tpos) op value pos) (sFldAug X.K ta tv rd f) := by
  intro pins s σ H D I h
  refine wpAny_AugAssign_AttributeAny (thn (ha pins s σ H _ I h) fun ov s1 ⟨x, H1, I1, rx, a, C, dx, fs, v, ex, ea, c, n, l, q⟩ => ?_)
  subst ex
  obtain rfl : ov = Value.ref a := rx
  refine getattr_ok I1 ea c n l fun u s2 I2 ru => thn (hv pins s2 σ H1 _ I2 q) fun w3 s3 ⟨y, H2, I3, ry, q3⟩ => thn (hop pins s3 σ H2 v y u w3 _ I3 ru ry q3) fun w4 s4 ⟨z, H3, I4, rz, dx', fs', ea', l', q4⟩ => ?_
  exact setattr_ok I4 ea' c n l' rz fun s5 I5 => ⟨σ, _, I5, q4⟩
def rAdd : V → V → Hp → VK → Prop := fun x y H Q => ∃ i j, x = .int i ∧ y = .int j ∧ Q (.int (i + j)) H
theorem in_add : InOp X .Add rAdd := by
  rintro pins s σ H x y u v Q I rx ry ⟨i, j, rfl, rfl, q⟩
  obtain ⟨t, rfl⟩ := (show ∃ t, u = Value.int i t from rx)
  obtain ⟨t', rfl⟩ := (show ∃ t', v = Value.int j t' from ry)
  exact PyProof.Rows.iadd_int ⟨.int (i + j), H, I.tok _, ⟨_, rfl⟩, q⟩

end

/-! ### isinstance -/
section
variable {X : Cx} {pins : List (Addr × Obj)} {σ : St} {H : Hp} {s : Shared} {A : Around} {E : Value → Shared → Prop} {Q : Value → Shared → Prop} {c : Value} {b : Bool}
end
end L2

namespace L2
open PySem PySem.Spec PyProof.Rows

/-! ### room -/
structure Room (k : Nat) (A : Around) : Prop where
  hd : A.handled = none
  dp : A.depth + 3 * k + 5 < recursionLimit
  un : A.units + 16 * k + 200 < cLine
theorem Room.mono {j k : Nat} {A : Around} (r : Room k A) (h : j ≤ k) : Room j A := ⟨r.hd, by have := r.dp; omega, by have := r.un; omega⟩
theorem Room.deeper {k : Nat} {A : Around} (r : Room (k + 1) A) (env : Env) : Room k (A.deeper env) :=
  ⟨r.hd, by have := r.dp; show A.depth + 1 + 3 * k + 5 < _; omega, by have := r.un; show A.units + 3 + 16 * k + 200 < _; omega⟩
theorem Room.in1 {k : Nat} {A : Around} (r : Room (k + 1) A) : Room k A.in1 :=
  ⟨r.hd, by have := r.dp; show A.depth + 3 * k + 5 < _; omega, by have := r.un; show A.units + 1 + 16 * k + 200 < _; omega⟩
theorem make_depth {A : Around} {C : Addr} {us : List Value} {kw : List (Str × Value)} : (A.under (.builtin "type.__call__" ⟨.ref C :: us, kw⟩)).depth = A.depth + 1 := by
  first | rfl | simp [Around.under, Code.weight, Code.isCreation, Code.isGuard, Code.isCaller, Code.frames, Code.isFrame, guardIds]
theorem make_units {A : Around} {C : Addr} {us : List Value} {kw : List (Str × Value)} : (A.under (.builtin "type.__call__" ⟨.ref C :: us, kw⟩)).units = A.units + 1 := by
  first | rfl | simp [Around.under, Code.cUnits, Code.frames, Code.isFrame]
theorem Room.make {k : Nat} {A : Around} (r : Room (k + 1) A) (C : Addr) (us : List Value) (kw : List (Str × Value)) : Room k (A.under (.builtin "type.__call__" ⟨.ref C :: us, kw⟩)) :=
  ⟨r.hd, by have := r.dp; rw [make_depth]; omega, by have := r.un; rw [make_units]; omega⟩
theorem Room.depth {k : Nat} {A : Around} (r : Room k A) : A.depth < recursionLimit := by have := r.dp; omega
theorem Room.units {k : Nat} {A : Around} (r : Room k A) : A.units + 64 < cLine := by have := r.un; omega

/-! ### argument lists and displays -/
def tNil : TA := fun _ H Q => Q [] H
def tCons (ta : TE) (tr : TA) : TA := fun σ H Q => ta σ H fun x H1 => tr σ H1 fun xs H2 => Q (x :: xs) H2
section
variable {X : Cx} {e : Expr} {es : List Expr} {te : TE} {t : TA} {pos : Pos}
theorem pa_nil : PA X [] tNil := fun _ _ _ _ H Q I h => Calls.spliced_nil ⟨[], H, I, .nil, h⟩
theorem pa_cons (ha : PE X e te) (hr : PA X es t) (hs : starEach (e :: es) X.env = (false, eval e X.env) :: starEach es X.env := by rfl) : PA X (e :: es) (tCons te t) := by
  intro pos pins s σ H Q I h
  rw [hs]
  show wpAny _ _ (spliced ((false, eval e X.env) :: backTo pos (starEach es X.env))) _ _ s
  refine Calls.spliced_cons (thn (ha pins s σ H _ I h) fun u s1 ⟨x, H1, I1, r1, q1⟩ => ?_)
  exact thn (hr pos pins s1 σ H1 _ I1 q1) fun us s2 ⟨xs, H2, I2, r2, q2⟩ => ⟨x :: xs, H2, I2, .cons r1 r2, q2⟩

/-- a tuple, a list of written items -/
def tTup (t : TA) : TE := fun σ H Q => t σ H fun xs H1 => xs.length ≤ sizeLine ∧ ∀ p, H1 p = none → Q (.ref p) (upd H1 p (.tup xs))
def tLst (t : TA) : TE := fun σ H Q => t σ H fun xs H1 => xs.length ≤ sizeLine ∧ ∀ p, H1 p = none → Q (.ref p) (upd H1 p (.lst xs))
theorem pe_tup {x1} (h : PA X es t) : PE X (.Tuple es x1 pos) (tTup t) := by
  intro pins s σ H Q I hq
  refine wpAny_Tuple_spliced (thn (h pos pins s σ H _ I hq) fun us s1 ⟨xs, H1, I1, r, z, q⟩ => ⟨by rw [← r.length]; exact z, ?_⟩)
  have hf : H1 s1.heap.objs.size = none := I1.hok.fresh (Nat.le_refl _)
  refine ⟨.ref s1.heap.objs.size, upd H1 s1.heap.objs.size (.tup xs), I1.laid (t' := s1.toks) (fun b u e => Heap.get?_push_of_some _ e) (Nat.le_refl _) ?_, rfl, q _ hf⟩
  exact ⟨z, us, r, ⟨_, Heap.get?_push_size _ rfl, rfl, _, rfl⟩⟩
theorem pe_lst (h : PA X es t) : PE X (.List es pos) (tLst t) := by
  intro pins s σ H Q I hq
  refine wpAny_List_spliced (thn (h pos pins s σ H _ I hq) fun us s1 ⟨xs, H1, I1, r, z, q⟩ => ⟨by rw [← r.length]; exact z, ?_⟩)
  have hf : H1 s1.heap.objs.size = none := I1.hok.fresh (Nat.le_refl _)
  refine ⟨.ref s1.heap.objs.size, upd H1 s1.heap.objs.size (.lst xs), I1.laid (t' := s1.toks) (fun b u e => Heap.get?_push_of_some _ e) (Nat.le_refl _) ?_, rfl, q _ hf⟩
  exact ⟨z, us, 0, r, Heap.get?_push_size _ rfl⟩
end

/-! ### what a def promises -/
/-- a def's promise: the bound arguments in the parameters' order, the heap, the wanted end, the wanted exception -/
abbrev Sp := List V → Hp → VK → XK → Prop
/-- how an exception lies behind a call (file 08 gives it): the callers' frames, abstract heap and state ahead of the call, the wish, the exception, the state -/
abbrev CXT := List Env → Hp → Shared → XK → Value → Shared → Prop

/-- the state at a call -/
structure Env0 (P : Program) (w : World) (K : PySem.W.Frag) (mg : Str → Option Value) (base : Heap) (A : Around) (outer : List Env) (s : Shared) (H : Hp) : Prop where
  frames : A.frames = some outer
  mod : Mod K mg base
  bs : ∀ b o, base.get? b = some o → s.heap.get? b = some o ∧ H b = none
  bsz : base.objs.size ≤ s.heap.objs.size
  funs : s.heap.FunFrames base outer
  frf : ∀ b ∈ frs outer, H b = none
  hok : HOk P w H s.heap
  bare : AllBare s.gens
/-- a call's end -/
def CE (outer : List Env) (P : Program) (w : World) (H : Hp) (s : Shared) (Q : VK) (u : Value) (s' : Shared) : Prop :=
  ∃ v H', s'.os = s.os ∧ AllBare s'.gens ∧ Un (frs outer) [] H H' s.heap s'.heap ∧ HOk P w H' s'.heap ∧ RelV v u ∧ Q v H'
def CR (CX : CXT) (outer : List Env) (P : Program) (w : World) (H : Hp) (s : Shared) (Q : VK) (E : XK) (r : Result) (s' : Shared) : Prop :=
  match r with
  | .ok (.ret u) => CE outer P w H s Q u s'
  | .ok _ => False
  | .error e => CX outer H s E e s'
structure FnOk (P : Program) (w : World) (K : PySem.W.Frag) (mg : Str → Option Value) (base : Heap) (CX : CXT) (k : Nat) (f : Addr) (fd : FuncData) (ps : List Str) (sp : Sp) : Prop where
  len : ∀ vs H Q E, sp vs H Q E → vs.length = ps.length
  run : ∀ (A : Around) (outer : List Env) (s : Shared) (H : Hp) (args : Args) (us : List Value) (vs : List V) (Q : VK) (E : XK), Room k A → Env0 P w K mg base A outer s H → BindsTo s fd args (ps.zip us) → Vals vs us → sp vs H Q E →
    codeAny (model P w) A (.call (.ref f) args) (CR CX outer P w H s Q E) s

theorem Env0.make {P : Program} {w : World} {K : PySem.W.Frag} {mg : Str → Option Value} {base : Heap} {A : Around} {outer : List Env} {s : Shared} {H : Hp} (e : Env0 P w K mg base A outer s H) (C : Addr) (us : List Value) (kw : List (Str × Value)) :
    Env0 P w K mg base (A.under (.builtin "type.__call__" ⟨.ref C :: us, kw⟩)) outer s H := ⟨by first | exact e.frames | (simpa [Around.under, Code.envs, Code.isFrame, pushEnvs] using e.frames), e.mod, e.bs, e.bsz, e.funs, e.frf, e.hok, e.bare⟩
theorem Env0.in1 {P : Program} {w : World} {K : PySem.W.Frag} {mg : Str → Option Value} {base : Heap} {A : Around} {outer : List Env} {s : Shared} {H : Hp} (e : Env0 P w K mg base A outer s H) :
    Env0 P w K mg base A.in1 outer s H := ⟨e.frames, e.mod, e.bs, e.bsz, e.funs, e.frf, e.hok, e.bare⟩

section
variable {X : Cx} {pins : List (Addr × Obj)} {σ : St} {H : Hp} {s s' : Shared}
/-- from a body: what a callee wants -/
theorem Inv.env0 (I : Inv X pins σ H s) : Env0 X.prog X.w X.K X.mg X.base X.A X.stack s H :=
  ⟨I.ok.frames, I.ok.mod, I.bs, Nat.le_trans I.ok.bsz I.sz, I.stack, I.stkFree, I.hok, I.bare⟩
/-- behind a call -/
theorem Inv.after {Q : VK} {u : Value} (I : Inv X pins σ H s) (h : CE X.stack X.prog X.w H s Q u s') : EP X pins σ Q u s' := by
  obtain ⟨v, H', os, bare, un, hok, r, q⟩ := h
  obtain ⟨hh, g, d, t, os'⟩ := s'
  obtain rfl : os' = s.os := os
  exact ⟨v, H', I.call (h' := hh) (g' := g) (d' := d) (t' := t) (ch := []) un hok bare (fun b z => absurd z (by simp)), r, q⟩
end

/-! ### calls -/
/-- f(..): the written arguments, then the defaults dvs; E: what is wanted of an exception -/
def tCall (sp : Sp) (dvs : List V) (E : XK) (t : TA) : TE := fun σ H Q => t σ H fun vs H1 => sp (vs ++ dvs) H1 Q E
/-- o.m(..) of an instance of the class at C -/
def tMeth (C : Addr) (m : Str) (sp : Sp) (dvs : List V) (E : XK) (ta : TE) (t : TA) : TE := fun σ H Q => ta σ H fun x H1 => ∃ a dx fs, x = .ref a ∧ H1 a = some (.ins C dx fs) ∧ fs.lookup m = none ∧
  t σ H1 fun vs H2 => sp (x :: (vs ++ dvs)) H2 Q E
/-- C(..): a new instance and its dict, then __init__ -/
def tMake (C : Addr) (sp : Sp) (dvs : List V) (E : XK) (t : TA) : TE := fun σ H Q => t σ H fun vs H1 => ∀ x dx, H1 x = none → H1 dx = none → dx ≠ x →
  sp (.ref x :: (vs ++ dvs)) (upd (upd H1 dx (.own x)) x (.ins C dx [])) (fun v H2 => v = .non ∧ Q (.ref x) H2) E

/-- how the parameters are bound: us the positional arguments, kw the keywords' values by name, ds the defaults that fill up -/
def Binds (K : PySem.W.Frag) (fd : FuncData) (ps : List Str) (ds : List Value) : Prop :=
  ∀ (s : Shared) (us : List Value), K.In s.heap → (us ++ ds).length = ps.length → BindsTo s fd ⟨us, []⟩ (ps.zip (us ++ ds))
/-- every parameter is given -/
theorem Binds.all {K : PySem.W.Frag} {fd : FuncData} {ps : List Str} (h : ∀ us : List Value, us.length = ps.length → bindArgs fd ⟨us, []⟩ = pure (ps.zip us)) : Binds K fd ps [] := fun s us _ hl => by
  rw [List.append_nil] at hl ⊢
  exact .of_eq (h us hl)

/-- an exception of a callee reaches what this body wants of exceptions -/
def Passes (CX : CXT) (X : Cx) (E : XK) : Prop := ∀ (pins : List (Addr × Obj)) (σ : St) (H : Hp) (s : Shared) (e : Value) (s' : Shared), Inv X pins σ H s → CX X.stack H s E e s' → X.xe e s'

section
variable {X : Cx} {CX : CXT} {k : Nat} {f C : Addr} {fd : FuncData} {ps : List Str} {sp : Sp} {dvs : List V} {ds : List Value} {E : XK} {x m : Str} {p pos apos : Pos} {e o : Expr} {es : List Expr} {ta : TE} {t : TA}

/-- the callee runs -/
theorem run_fn {pins : List (Addr × Obj)} {σ : St} {H : Hp} {s : Shared} {Q : VK} {us : List Value} {vs : List V} (F : FnOk X.prog X.w X.K X.mg X.base CX k f fd ps sp) (hr : Room k X.A) (hb : Binds X.K fd ps ds) (hd : Vals dvs ds) (hx : Passes CX X E)
    (I : Inv X pins σ H s) (r : Vals vs us) (h : sp (vs ++ dvs) H Q E) : wpAny (model X.prog X.w) X.A (call (.ref f) us) (EP X pins σ Q) X.xe s := by
  have r2 : Vals (vs ++ dvs) (us ++ ds) := r.append hd
  have hl : (us ++ ds).length = ps.length := by rw [← r2.length]; exact F.len _ _ _ _ h
  refine wpAny_call (codeAny_mono (F.run X.A X.stack s H ⟨us, []⟩ (us ++ ds) (vs ++ dvs) Q E hr I.env0 (hb s us I.kIn hl) r2 h) fun r s' hq => ?_)
  cases r with
  | error e => exact hx pins σ H s e s' I hq
  | ok fl =>
    cases fl with
    | ret u => exact I.after hq
    | next => exact False.elim hq
    | brk => exact False.elim hq
    | cont => exact False.elim hq

theorem pe_call (F : FnOk X.prog X.w X.K X.mg X.base CX k f fd ps sp) (hr : Room k X.A) (hg : Gl X x) (hm : X.mg x = some (.ref f)) (hk : PySem.W.keepIn X.K (.ref f) = true) (hb : Binds X.K fd ps ds) (hd : Vals dvs ds) (hx : Passes CX X E)
    (ha : PA X (e :: es) t) (hdb : (x == ("__debug__" : Str)) = false := by decide) (he : starEach (e :: es) X.env = (false, eval e X.env) :: starEach es X.env := by rfl) (hpl : (backTo pos (starEach es X.env)).any (·.1) = false := by rfl) :
    PE X (.Call (.Name x p) (e :: es) [] pos) (tCall sp dvs E t) := by
  intro pins s σ H Q I h
  refine wpAny_Call_Name_kw (ld_glob I hg hm ?_ hdb)
  refine PySem.W.callWith_K (h₀ := X.base) I.ok.mod.kin hk (thn (ha pos pins s σ H _ I h) fun us s1 ⟨vs, H1, I1, r, q⟩ => ⟨I1.kIn, ?_⟩) he hpl
  exact run_fn F hr hb hd hx I1 r q

/-- o.m(e, ..) -/
theorem pe_meth {pl : Sem Bool} (he : PE X o ta) (c : Cls X.K C) (hm : Meth X.K C m f) (F : FnOk X.prog X.w X.K X.mg X.base CX k f fd ps sp) (hr : Room k X.A) (hb : Binds X.K fd ps ds) (hd : Vals dvs ds) (hx : Passes CX X E) (ha : PA X (e :: es) t)
    (hst : starEach (e :: es) X.env = (false, eval e X.env) :: starEach es X.env := by rfl) (hpl : (backTo pos (starEach es X.env)).any (·.1) = false := by rfl)
    (ht : eval (.Call (.Attribute o m apos) (e :: es) [] pos) X.env = (do
      let ov ← eval o X.env
      standAt apos.atName
      let (f, first) ← holding [ov] (getMethod ov m pl)
      callWith pos f first (backTo pos (starEach (e :: es) X.env)) (backToKw pos (keywordEach [] X.env))) := by rfl) :
    PE X (.Call (.Attribute o m apos) (e :: es) [] pos) (tMeth C m sp dvs E ta t) := by
  intro pins s σ H Q I h
  refine PySem.W.methodCall_KW (pl := pl) (thn (he pins s σ H _ I h) fun u s1 ⟨x, H1, I1, rx, a, dx, fs, ex, ea, l, q⟩ => ?_) ht
  subst ex
  obtain rfl : u = Value.ref a := rx
  refine getmeth_ok I1 ea c hm l ?_
  refine PySem.W.callWith_K (first := [.ref a]) (h₀ := X.base) I.ok.mod.kin hm.kp (thn (ha pos pins s1 σ H1 _ I1 q) fun us s2 ⟨vs, H2, I2, r, q2⟩ => ⟨I2.kIn, ?_⟩) hst hpl
  exact run_fn (us := .ref a :: us) (vs := .ref a :: vs) F hr hb hd hx I2 (.cons rfl r) q2
/-- o.m() -/
theorem pe_meth0 {pl : Sem Bool} (he : PE X o ta) (c : Cls X.K C) (hm : Meth X.K C m f) (F : FnOk X.prog X.w X.K X.mg X.base CX k f fd ps sp) (hr : Room k X.A) (hb : Binds X.K fd ps ds) (hd : Vals dvs ds) (hx : Passes CX X E)
    (ht : eval (.Call (.Attribute o m apos) [] [] pos) X.env = (do
      let ov ← eval o X.env
      standAt apos.atName
      let (f, first) ← holding [ov] (getMethod ov m pl)
      callWith pos f first (backTo pos (starEach [] X.env)) (backToKw pos (keywordEach [] X.env))) := by rfl) :
    PE X (.Call (.Attribute o m apos) [] [] pos) (tMeth C m sp dvs E ta tNil) := by
  intro pins s σ H Q I h
  refine PySem.W.methodCall_KW (pl := pl) (thn (he pins s σ H _ I h) fun u s1 ⟨x, H1, I1, rx, a, dx, fs, ex, ea, l, q⟩ => ?_) ht
  subst ex
  obtain rfl : u = Value.ref a := rx
  refine getmeth_ok I1 ea c hm l ?_
  exact PySem.W.callWith_K0 (first := [.ref a]) I1.kIn hm.kp (run_fn (us := [.ref a]) (vs := [.ref a]) F hr hb hd hx I1 (.cons rfl .nil) q)

/-- what a class must have to be made -/
structure Mk (K : PySem.W.Frag) (C f : Addr) : Prop where
  makes : PySem.W.makesIn K C = true
  init : PySem.W.findIn K (.ref C) "__init__" = some (some (.ref f))
  fn : PySem.W.isFn K (.ref f) = true
  kp : PySem.W.keepIn K (.ref C) = true

theorem run_make {pins : List (Addr × Obj)} {σ : St} {H : Hp} {s : Shared} {Q : VK} {us : List Value} {vs : List V} (M : Mk X.K C f) (F : FnOk X.prog X.w X.K X.mg X.base CX k f fd ps sp) (hr : Room (k + 1) X.A) (hb : Binds X.K fd ps ds) (hd : Vals dvs ds)
    (hx : Passes CX X E) (I : Inv X pins σ H s) (r : Vals vs us)
    (h : ∀ x dx, H x = none → H dx = none → dx ≠ x → sp (.ref x :: (vs ++ dvs)) (upd (upd H dx (.own x)) x (.ins C dx [])) (fun v H2 => v = .non ∧ Q (.ref x) H2) E) :
    wpAny (model X.prog X.w) X.A (call (.ref C) us) (EP X pins σ Q) X.xe s := by
  have hq := h (s.heap.objs.size + 1) s.heap.objs.size (I.hok.fresh (Nat.le_succ _)) (I.hok.fresh (Nat.le_refl _)) (Nat.ne_of_lt (Nat.lt_succ_self _))
  have I2 := Inv.made (C := C) I
  have r2 : Vals (V.ref (s.heap.objs.size + 1) :: (vs ++ dvs)) (Value.ref (s.heap.objs.size + 1) :: (us ++ ds)) := .cons rfl (r.append hd)
  have hl : (Value.ref (s.heap.objs.size + 1) :: us ++ ds).length = ps.length := by
    have e := r2.length
    rw [F.len _ _ _ _ hq] at e
    exact e.symm
  refine wpAny_call (make_map (f := f) I.kIn M.makes M.init (beq_iff_eq.mp M.fn) (codeAny_mono (F.run _ X.stack _ _ ⟨Value.ref (s.heap.objs.size + 1) :: us, []⟩ (Value.ref (s.heap.objs.size + 1) :: (us ++ ds)) _ _ E (hr.make C us [])
    (I2.env0.make C us []) (hb _ (Value.ref (s.heap.objs.size + 1) :: us) I2.kIn hl) r2 hq) fun r s' hq' => ?_))
  cases r with
  | error e => exact hx pins σ _ _ e s' I2 hq'
  | ok fl =>
    cases fl with
    | ret u =>
      obtain ⟨v, H', I3, rv, ev, q3⟩ := I2.after hq'
      subst ev
      exact ⟨rv, ⟨V.ref (s.heap.objs.size + 1), H', I3, rfl, q3⟩⟩
    | next => exact False.elim hq'
    | brk => exact False.elim hq'
    | cont => exact False.elim hq'
theorem pe_make (M : Mk X.K C f) (F : FnOk X.prog X.w X.K X.mg X.base CX k f fd ps sp) (hr : Room (k + 1) X.A) (hg : Gl X x) (hm : X.mg x = some (.ref C)) (hb : Binds X.K fd ps ds) (hd : Vals dvs ds) (hx : Passes CX X E)
    (ha : PA X (e :: es) t) (hdb : (x == ("__debug__" : Str)) = false := by decide) (he : starEach (e :: es) X.env = (false, eval e X.env) :: starEach es X.env := by rfl) (hpl : (backTo pos (starEach es X.env)).any (·.1) = false := by rfl) :
    PE X (.Call (.Name x p) (e :: es) [] pos) (tMake C sp dvs E t) := by
  intro pins s σ H Q I h
  refine wpAny_Call_Name_kw (ld_glob I hg hm ?_ hdb)
  refine PySem.W.callWith_K (h₀ := X.base) I.ok.mod.kin M.kp (thn (ha pos pins s σ H _ I h) fun us s1 ⟨vs, H1, I1, r, q⟩ => ⟨I1.kIn, ?_⟩) he hpl
  exact run_make M F hr hb hd hx I1 r q
end

/-! ### keywords -/
section
variable {X : Cx} {CX : CXT} {k : Nat} {f C : Addr} {fd : FuncData} {ps ks : List Str} {sp : Sp} {E : XK} {x m : Str} {p pos apos kpos : Pos} {e o : Expr} {es : List Expr} {kws : List Keyword} {te ta : TE} {t tk : TA} {nm : Option Str}

variable {g : List Value → List Value → List Value} {gV : List V → List V → List V}
end

/-! ### a def's body keeps its promise -/
/-- names: the parameters first -/
structure FnScope (N P : List Str) (sc : Scope) : Prop where
  kind : sc.kind = .function
  co : sc.isCoroutine = false
  gen : sc.isGenerator = false
  nd : N.Nodup
  pre : N.take P.length = P
  par : ∀ x ∈ P, sc.names.lookup x = some .local ∨ sc.names.lookup x = some .cell
  nofree : ∀ y ∈ sc.names, y.2 ≠ .free

theorem bindL_out {kindOf : Str → Option NameKind} {x : Str} : ∀ {binds : List (Str × Value)} {m : Str → Option Value}, (∀ v, (x, v) ∉ binds) → bindL kindOf binds m x = m x
  | [], _, _ => rfl
  | (n, v) :: r, m, h => by
    unfold bindL
    rw [bindL_out fun w hw => h w (List.mem_cons_of_mem _ hw)]
    split
    · have : x ≠ n := by rintro rfl; exact h v List.mem_cons_self
      simp [this]
    · rfl
theorem bindC_out {kindOf : Str → Option NameKind} {x : Str} : ∀ {binds : List (Str × Value)} {m : Str → Option Value}, (∀ v, (x, v) ∉ binds) → bindC kindOf binds m x = m x
  | [], _, _ => rfl
  | (n, v) :: r, m, h => by
    unfold bindC
    rw [bindC_out fun w hw => h w (List.mem_cons_of_mem _ hw)]
    split
    · rfl
    · have : x ≠ n := by rintro rfl; exact h v List.mem_cons_self
      simp [this]
theorem bindL_get {kindOf : Str → Option NameKind} {x : Str} {v : Value} : ∀ {P : List Str} {vs : List Value} {i : Nat} {m : Str → Option Value}, P.Nodup → P[i]? = some x → vs[i]? = some v → kindOf x = some .local →
    bindL kindOf (P.zip vs) m x = some v
  | [], _, _, _, _, h, _, _ => by simp at h
  | _ :: _, [], _, _, _, _, h, _ => by simp at h
  | p :: P, w :: vs, 0, m, nd, h1, h2, hk => by
    simp at h1 h2; subst h1; subst h2
    show bindL kindOf ((p, w) :: P.zip vs) m p = _
    unfold bindL
    rw [bindL_out fun v hv => (List.nodup_cons.mp nd).1 (List.of_mem_zip hv).1, if_pos hk]
    simp
  | p :: P, w :: vs, i + 1, m, nd, h1, h2, hk => by
    show bindL kindOf ((p, w) :: P.zip vs) m x = _
    unfold bindL
    exact bindL_get (i := i) (List.nodup_cons.mp nd).2 (by simpa using h1) (by simpa using h2) hk
theorem bindC_get {kindOf : Str → Option NameKind} {x : Str} {v : Value} : ∀ {P : List Str} {vs : List Value} {i : Nat} {m : Str → Option Value}, P.Nodup → P[i]? = some x → vs[i]? = some v → kindOf x ≠ some .local →
    bindC kindOf (P.zip vs) m x = some v
  | [], _, _, _, _, h, _, _ => by simp at h
  | _ :: _, [], _, _, _, _, h, _ => by simp at h
  | p :: P, w :: vs, 0, m, nd, h1, h2, hk => by
    simp at h1 h2; subst h1; subst h2
    show bindC kindOf ((p, w) :: P.zip vs) m p = _
    unfold bindC
    rw [bindC_out fun v hv => (List.nodup_cons.mp nd).1 (List.of_mem_zip hv).1, if_neg hk]
    simp
  | p :: P, w :: vs, i + 1, m, nd, h1, h2, hk => by
    show bindC kindOf ((p, w) :: P.zip vs) m x = _
    unfold bindC
    exact bindC_get (i := i) (List.nodup_cons.mp nd).2 (by simpa using h1) (by simpa using h2) hk

/-- the names' values at the entry -/
def start (N : List Str) (vs : List V) : St := vs.map some ++ List.replicate (N.length - vs.length) none

/-- the context of a def's body, at its entry; an exception leaves the frame, then lies as CX says -/
def cxOf (CX : CXT) (P : Program) (w : World) (K : PySem.W.Frag) (mg : Str → Option Value) (base : Heap) (N : List Str) (qual : Str) (scope : Scope) (f : Addr) (cd : Value) (A : Around) (outer : List Env) (s : Shared) (H : Hp) (E : XK) : Cx where
  prog := P
  w := w
  K := K
  mg := mg
  base := base
  A := A.deeper (envOfC qual scope s.heap.objs.size f cd)
  N := N
  s_0 := s
  H_0 := H
  env := envOfC qual scope s.heap.objs.size f cd
  outer := outer
  stack := envOfC qual scope s.heap.objs.size f cd :: outer
  ex := []
  calm := true
  fn := fun _ => true
  pn := []
  xe := fun e s' => wpAny (model P w) (A.deeper (envOfC qual scope s.heap.objs.size f cd)) (leaving (envOfC qual scope s.heap.objs.size f cd) e) (fun _ s'' => CX outer H s E e s'') (fun e' s'' => CX outer H s E e' s'') s'

theorem cell_has {sc : Scope} {n : Nat} {x : Str} (h : sc.names.lookup x = some .cell) : ∃ c, (cellsFrom n sc.names []).lookup x = some c := by
  have q := PySem.W.cellsFrom_some sc.names n [] (.inl h)
  exact Option.isSome_iff_exists.mp q

theorem inv_start {CX : CXT} {P : Program} {w : World} {K : PySem.W.Frag} {mg : Str → Option Value} {base : Heap} {N ps : List Str} {qual : Str} {scope : Scope} {f : Addr} {cd : Value} {A : Around} {outer : List Env} {s s1 : Shared} {H : Hp} {E : XK} {us : List Value} {vs : List V}
    (S : FnScope N ps scope) (hd : A.handled = none) (e0 : Env0 P w K mg base A outer s H) (hl : vs.length = ps.length) (r : Vals vs us)
    (x : InCallC s s.heap.objs.size (bindL (envOfC qual scope s.heap.objs.size f cd).kindOf (ps.zip us) fun _ => none) (cellsFrom (s.heap.objs.size + 1) scope.names []) (bindC (envOfC qual scope s.heap.objs.size f cd).kindOf (ps.zip us) fun _ => none) s1) :
    Inv (cxOf CX P w K mg base N qual scope f cd A outer s H E) [] (start N vs) H s1 := by
  have hpl : ps.length ≤ N.length := by have := congrArg List.length S.pre; rw [List.length_take] at this; omega
  obtain ⟨h1, tk, rfl, hk⟩ := x.done
  have noA : ∀ b : Addr, b ∉ (cxOf CX P w K mg base N qual scope f cd A outer s H E).ex := fun b z => absurd (show b ∈ ([] : List Addr) from z) (by simp)
  refine ⟨⟨e0.mod, S.kind, rfl, rfl, Nat.le_refl _, fun y z c h1 h2 => ?_, fun y hy => ?_, fun y c _ h => ?_, fun _ => hd, Around.frames_deeper e0.frames, .inr ⟨rfl, rfl⟩, fun b z => absurd z (noA b), e0.bs, e0.bsz, fun b _ _ => noA b, fun b z => absurd z (noA b), e0.funs, e0.frf⟩,
    rfl, e0.bare, Un.kept hk, ⟨_, x.toInCall.ns, fun i y v h1 h2 h3 => ?_⟩, fun y c h => ⟨_, x.cell y c h⟩, e0.hok.fresh (Nat.le_refl _), fun y c h => ?_, fun p hp => absurd (show p ∈ ([] : List (Addr × Obj)) from hp) (by simp), e0.hok.kept hk, ?_⟩
  · exact name_of_addr x.apart (PySem.mem_of_lookup h1) (PySem.mem_of_lookup h2)
  · have hy : scope.names.lookup y = some .cell ∨ scope.names.lookup y = some .free := hy
    rcases hy with hy | hy
    · exact cell_has hy
    · exact absurd rfl (S.nofree _ (PySem.mem_of_lookup hy))
  · exact Nat.le_of_lt (x.above y c (PySem.mem_of_lookup h))
  · have hi : i < vs.length := by
      unfold start at h2
      by_cases hi : i < vs.length
      · exact hi
      · rw [List.getElem?_append_right (by simpa using hi)] at h2
        rw [List.getElem?_replicate] at h2
        split at h2 <;> cases h2
    have ha : vs[i]? = some v := by
      unfold start at h2
      rw [List.getElem?_append_left (by simpa using hi), List.getElem?_map] at h2
      cases e : vs[i]? with
      | none => rw [e] at h2; cases h2
      | some a => rw [e] at h2; cases h2; rfl
    obtain ⟨u, hu, rv⟩ := r.get ha
    have hp : ps[i]? = some y := by
      rw [← S.pre, List.getElem?_take_of_lt (by omega)]; exact h1
    have ndP : ps.Nodup := by rw [← S.pre]; exact S.nd.sublist (List.take_sublist _ _)
    refine ⟨u, rv, ?_⟩
    rcases S.par y (List.mem_of_getElem? hp) with k | k
    · exact .inl ⟨k, bindL_get ndP hp hu k⟩
    · obtain ⟨c, e⟩ := cell_has (n := s.heap.objs.size + 1) k
      refine .inr ⟨.inl k, c, e, ?_⟩
      have q := x.cell y c e
      rw [bindC_get ndP hp hu (by show scope.names.lookup y ≠ _; rw [k]; decide)] at q
      exact q
  · exact e0.hok.fresh (Nat.le_of_lt (x.above y c (PySem.mem_of_lookup h)))
  · unfold start
    show _ = N.length
    rw [List.length_append, List.length_map, List.length_replicate]
    omega

/-- THE RULE: a def (or a method) of the text, by its body. The body's reading t is chosen for each entry; it is run at the parameters' values -/
theorem fn_of {CX : CXT} {P : Program} {w : World} {K : PySem.W.Frag} {mg : Str → Option Value} {base : Heap} {k : Nat} {f : Addr} {name qual : Str} {params : Arguments} {body : List Stmt} {scope : Scope} {dV kV doc pm cdv ct oc : Value} {an od : Option Addr}
    {osl : Array (Option Value)} {N ps : List Str} {sp : Sp} (lk : K.lookup f = some ⟨oc, od, .func (PySem.W.fnOf name qual params body scope dV kV doc pm an cdv ct), osl⟩) (hcd : PySem.W.codeIn K cdv qual = true) (S : FnScope N ps scope)
    (len : ∀ vs H Q E, sp vs H Q E → vs.length = ps.length)
    (hbody : ∀ (A : Around) (outer : List Env) (s : Shared) (H : Hp) (vs : List V) (Q : VK) (E : XK), Room k (A.deeper (envOfC qual scope s.heap.objs.size f cdv)) → sp vs H Q E →
      ∃ t, PSs (cxOf CX P w K mg base N qual scope f cdv A outer s H E) body t ∧ t { nx := fun _ H' => Q .non H', rt := Q } (start N vs) H) :
    FnOk P w K mg base CX (k + 1) f (PySem.W.fnOf name qual params body scope dV kV doc pm an cdv ct) ps sp := by
  refine ⟨len, fun A outer s H args us vs Q E hr e0 hb r hsp => ?_⟩
  have hl := len _ _ _ _ hsp
  have KX : K.In s.heap := e0.mod.kin.keeps fun b o e => (e0.bs b o e).1
  have lim : s.heap.NoLimit := e0.mod.nolimit.keeps fun b o e => (e0.bs b o e).1
  have hkind : ∀ y ∈ ps.zip us, scope.names.lookup y.1 = some .local ∨ (scope.names.lookup y.1 = some .cell ∧ ((cellsFrom (s.heap.objs.size + 1) scope.names []).lookup y.1).isSome = true) := fun ⟨n, v⟩ hy => by
    rcases S.par n (List.of_mem_zip hy).1 with q | q
    · exact .inl q
    · exact .inr ⟨q, PySem.W.cellsFrom_some _ _ _ (.inl q)⟩
  refine codeAny_call_function hr.depth (KX _ _ lk) rfl S.co S.gen rfl (PySem.W.codeRec_of KX hcd) (hb _ _ _ _ ?_)
  refine wpAny_newFunctionEnv_cells S.kind hkind fun env he s1 x => ?_
  subst he
  refine ⟨lim.keeps x.toInCall.keep, codeAny_func ?_⟩
  obtain ⟨t, ht, hq⟩ := hbody A outer s H vs Q E (hr.deeper _) hsp
  have I : Inv (cxOf CX P w K mg base N qual scope f cdv A outer s H E) [] (start N vs) H s1 := inv_start S hr.hd e0 hl r x
  refine wpAny_mono (ht [] s1 (start N vs) H _ I hq) (fun fl s' hs => ?_) fun e s' hs => hs
  have fin : ∀ {σ' : St} {H' : Hp} {v : V} {u : Value}, Inv (cxOf CX P w K mg base N qual scope f cdv A outer s H E) [] σ' H' s' → RelV v u → Q v H' → CE outer P w H s Q u s' :=
    fun {σ' H' v u} J rv q => ⟨v, H', J.os, J.bare, J.base, J.hok, rv, q⟩
  cases fl with
  | ret u =>
    obtain ⟨v, σ', H', J, rv, q⟩ := hs
    exact fin J rv q
  | next =>
    obtain ⟨σ', H', J, q⟩ := hs
    exact fin (v := V.non) (u := Value.none) J rfl q
  | brk =>
    obtain ⟨_, _, _, q⟩ := hs
    exact False.elim q
  | cont =>
    obtain ⟨_, _, _, q⟩ := hs
    exact False.elim q
end L2

namespace L2
open PySem PySem.Spec PyProof.Rows
section
variable {X : Cx} {x : Str} {p pos : Pos} {e : Expr} {es : List Expr} {t : TA} {id T : String} {r : List V → Hp → VK → Prop}

def tCB (r : List V → Hp → VK → Prop) (t : TA) : TE := fun σ H Q => t σ H fun vs H1 => r vs H1 Q
/-- f(e, ..), f a built-in function -/
theorem pe_callB (hc : CallR X (.builtin id) r) (hg : Gl X x) (hm : X.mg x = none) (hv : bootBuiltins x = some (.builtin id)) (ha : PA X (e :: es) t) (hn : x ≠ "__name__" := by decide) (hdb : (x == ("__debug__" : Str)) = false := by decide)
    (he : starEach (e :: es) X.env = (false, eval e X.env) :: starEach es X.env := by rfl) (hpl : (backTo pos (starEach es X.env)).any (·.1) = false := by rfl) : PE X (.Call (.Name x p) (e :: es) [] pos) (tCB r t) := by
  intro pins s σ H Q I h
  refine wpAny_Call_Name_kw (ld_blt I hg hm hv ?_ hn hdb)
  exact PyProof.Rows.callWith_builtin1 (thn (ha pos pins s σ H _ I h) fun us s1 ⟨vs, H1, I1, r1, q1⟩ => hc pins s1 σ H1 vs us Q I1 r1 q1) he hpl
/-- T(e, ..), T a built-in type -/
theorem pe_callTy (hc : CallR X (.type T) r) (hg : Gl X x) (hm : X.mg x = none) (hv : bootBuiltins x = some (.type T)) (ha : PA X (e :: es) t) (hn : x ≠ "__name__" := by decide) (hdb : (x == ("__debug__" : Str)) = false := by decide)
    (he : starEach (e :: es) X.env = (false, eval e X.env) :: starEach es X.env := by rfl) (hpl : (backTo pos (starEach es X.env)).any (·.1) = false := by rfl) : PE X (.Call (.Name x p) (e :: es) [] pos) (tCB r t) := by
  intro pins s σ H Q I h
  refine wpAny_Call_Name_kw (ld_blt I hg hm hv ?_ hn hdb)
  exact PyProof.Rows.callWith_type1 (thn (ha pos pins s σ H _ I h) fun us s1 ⟨vs, H1, I1, r1, q1⟩ => hc pins s1 σ H1 vs us Q I1 r1 q1) he hpl
end
end L2

namespace HT
open PySem PyProof.Rows



section
open PySem.SeqAt
open PySem.AutoSeq1 (wpAny_loadPart')
open PySem.MeetsSeq PySem.MeetsSeq2 PySem.MeetsSeq3

end

section
variable {prog : Program} {w : World} {A : Around} {E : Value → Shared → Prop} {s : Shared}



/-! ### t[a:b], not the whole -/
/-- a slice's bound as a place among n (d where it is left out) -/
def sIx (n d : Nat) : Option Int → Nat
  | none => d
  | some v => if v < 0 then (v + (n : Int)).toNat else min v.toNat n
theorem sIx_nat (n d k : Nat) : sIx n d (some (k : Int)) = min k n := by
  show (if (k : Int) < 0 then ((k : Int) + (n : Int)).toNat else min (k : Int).toNat n) = min k n
  rw [if_neg (by omega), Int.toNat_natCast]

end
end HT

namespace L2
open PySem PySem.Spec PyProof.Rows

/-! ### the parts of a slice -/
abbrev TO := St → Hp → (Option Int → Hp → Prop) → Prop
/-- a slice's part (left out, or an int) -/
def PO (X : Cx) (e : Option Expr) (t : TO) : Prop :=
  ∀ (pins : List (Addr × Obj)) (s : Shared) (σ : St) (H : Hp) (Q : Option Int → Hp → Prop), Inv X pins σ H s → t σ H Q →
    wpAny (model X.prog X.w) X.A (evalPart e X.env) (fun u s' => ∃ o H', Inv X pins σ H' s' ∧ IsPart u o ∧ Q o H') X.xe s
def tPart (t : TE) : TO := fun σ H Q => t σ H fun x H1 => ∃ i, x = .int i ∧ Q (some i) H1


section
variable {X : Cx} {e : Expr} {te : TE} {lo hi : Option Expr} {tl th : TO} {pos p2 : Pos}

theorem po_some (h : PE X e te) : PO X (some e) (tPart te) := by
  intro pins s σ H Q I hw
  rw [evalPart_some]
  refine thn (h pins s σ H _ I hw) fun u s1 ⟨x, H1, I1, r1, q1⟩ => ?_
  obtain ⟨i, rfl, q⟩ := q1
  obtain ⟨t, rfl⟩ := r1
  exact ⟨some i, H1, I1, .int i t, q⟩

/-- what a slice of a value is, by values: the slice object stands at sl -/
def SlR (X : Cx) (r : V → Option Int → Option Int → Hp → VK → Prop) : Prop :=
  ∀ (pins : List (Addr × Obj)) (s : Shared) (σ : St) (H : Hp) (x : V) (v vl vu : Value) (lo hi : Option Int) (sl : Addr) (Q : VK), Inv X pins σ H s → RelV x v → s.heap.IsSliceOf sl vl vu .none → IsPart vl lo → IsPart vu hi → r x lo hi H Q →
    ∃ T id, typeLookup (.type T) "__getitem__" = pure (some (.builtin id)) ∧ s.TypeIs v T ∧ wpAny (model X.prog X.w) X.A (getItem v (.ref sl)) (EP X pins σ Q) X.xe s
def tSl (r : V → Option Int → Option Int → Hp → VK → Prop) (te : TE) (tl th : TO) : TE := fun σ H Q => te σ H fun x H1 => tl σ H1 fun l H2 => th σ H2 fun u H3 => r x l u H3 Q
/-- a[lo:hi], any a -/
theorem pe_slice {r : V → Option Int → Option Int → Hp → VK → Prop} (hr : SlR X r) (he : PE X e te) (hl : PO X lo tl) (hu : PO X hi th) : PE X (.Subscript e (.Slice lo hi none p2) pos) (tSl r te tl th) := by
  intro pins s σ H Q I h
  refine Subscript_ (thn (he pins s σ H _ I h) fun v s1 ⟨x, H1, I1, r1, q1⟩ => ?_)
  refine wpAny_Slice (thn (hl pins s1 σ H1 _ I1 q1) fun vl s2 ⟨l, H2, I2, pl, q2⟩ => thn (hu pins s2 σ H2 _ I2 q2) fun vu s3 ⟨u, H3, I3, pu, q3⟩ => ?_)
  rw [evalPart_none]
  refine wpAny_pure ?_
  have I4 : Inv X pins σ H3 { s3 with heap := s3.heap.push { cls := .type "slice", data := .fields #[vl, vu, .none] } } := I3.kept (t' := s3.toks) fun b ob q => Heap.get?_push_of_some _ q
  obtain ⟨T, id, hT, ht, hg⟩ := hr pins { s3 with heap := s3.heap.push { cls := .type "slice", data := .fields #[vl, vu, .none] } } σ H3 x v vl vu l u s3.heap.objs.size Q I4 r1 (Heap.IsSliceOf.new ..) pl pu q3
  show wpAny (model X.prog X.w) X.A (subscriptTail e (.Slice lo hi none p2) v (.ref s3.heap.objs.size)) (EP X pins σ Q) X.xe { s3 with heap := s3.heap.push { cls := .type "slice", data := .fields #[vl, vu, .none] } }
  exact tail_any (ops := [.ref s3.heap.objs.size, v]) ht hT hg (by with_unfolding_all rfl)

/-- the items of xs[lo:hi] -/
def cutV (xs : List V) (lo hi : Option Int) : List V := (xs.drop (HT.sIx xs.length 0 lo)).take (HT.sIx xs.length xs.length hi - HT.sIx xs.length 0 lo)
theorem cutV_length (xs : List V) (lo hi : Option Int) : (cutV xs lo hi).length ≤ xs.length := by
  unfold cutV
  rw [List.length_take, List.length_drop]
  omega

/-! ### t < u, t + u -/
end
end L2

namespace L2
open PySem PySem.Spec PyProof.Rows

/-! ### places -/
/-- the place that an index of any sign means -/
def ixN (n : Nat) (i : Int) : Option Nat := if 0 ≤ i then (if i < n then some i.toNat else none) else if -(n : Int) ≤ i then some (i + n).toNat else none
def atI {α : Type} (xs : List α) (i : Int) : Option α := (ixN xs.length i).bind fun j => xs[j]?
theorem ixN_seq {n : Nat} {i : Int} {j : Nat} (h : ixN n i = some j) : seqIndex? i n = some j ∧ j < n ∧ -(n : Int) ≤ i ∧ i < n := by
  unfold ixN at h
  by_cases h0 : 0 ≤ i
  · rw [if_pos h0] at h
    by_cases h1 : i < n
    · rw [if_pos h1] at h
      have e : i.toNat = j := Option.some.inj h
      exact ⟨by rw [seqIndex_of h0 h1, e], by omega, by omega, h1⟩
    · rw [if_neg h1] at h; cases h
  · rw [if_neg h0] at h
    by_cases h1 : -(n : Int) ≤ i
    · rw [if_pos h1] at h
      have e : (i + n).toNat = j := Option.some.inj h
      exact ⟨by rw [seqIndex_neg (by omega) h1, e], by omega, h1, by omega⟩
    · rw [if_neg h1] at h; cases h
theorem atI_get {α : Type} {xs : List α} {i : Int} {v : α} (h : atI xs i = some v) : ∃ j, seqIndex? i xs.length = some j ∧ xs[j]? = some v ∧ j < xs.length ∧ -(xs.length : Int) ≤ i ∧ i < xs.length := by
  unfold atI at h
  cases e : ixN xs.length i with
  | none => rw [e] at h; cases h
  | some j =>
    rw [e] at h
    obtain ⟨h1, h2, h3, h4⟩ := ixN_seq e
    exact ⟨j, h1, h, h2, h3, h4⟩
theorem atI_nat {α : Type} {xs : List α} {j : Nat} {v : α} (h : xs[j]? = some v) : atI xs (j : Int) = some v := by
  have hj : j < xs.length := (List.getElem?_eq_some_iff.mp h).1
  have e : ixN xs.length (j : Int) = some j := by
    unfold ixN
    rw [if_pos (by omega), if_pos (by omega)]; simp
  unfold atI; rw [e]; exact h
theorem atI_last {α : Type} (xs : List α) (v : α) : atI (xs ++ [v]) (-1) = some v := by
  have hl : (xs ++ [v]).length = xs.length + 1 := by simp
  have e : ixN (xs ++ [v]).length (-1) = some xs.length := by
    unfold ixN
    rw [hl, if_neg (by decide), if_pos (by omega)]
    congr 1
    omega
  unfold atI
  rw [e]
  show (xs ++ [v])[xs.length]? = some v
  simp

/-! ### what may be subscripted -/
/-- what stands as an index of a plain subscript -/
def PlainIx (b : Expr) : Prop := ∀ o i, subscripted b false o i = operate [o, i] (getItem o i)
/-- a subscript by values -/
def IxR (X : Cx) (r : R2) : Prop :=
  ∀ (value slice : Expr) (pins : List (Addr × Obj)) (s : Shared) (σ : St) (H : Hp) (x y : V) (v u : Value) (Q : VK), Inv X pins σ H s → RelV x v → RelV y u → r x y H Q →
    subscripted slice false v u = operate [v, u] (getItem v u) → wpAny (model X.prog X.w) X.A (subscriptTail value slice v u) (EP X pins σ Q) X.xe s
/-- a call of a builtin's method by values: the receiver, the arguments -/
def MtR (X : Cx) (id : String) (r : V → List V → Hp → VK → Prop) : Prop :=
  ∀ (pins : List (Addr × Obj)) (s : Shared) (σ : St) (H : Hp) (x : V) (xs : List V) (v : Value) (us : List Value) (Q : VK), Inv X pins σ H s → RelV x v → Vals xs us → r x xs H Q →
    wpAny (model X.prog X.w) X.A (call (.builtin id) (v :: us)) (EP X pins σ Q) X.xe s
section
variable {X : Cx} {a b : Expr} {ta tb : TE} {pos : Pos}
/-- a[b] -/
theorem pe_ix {r : R2} (hr : IxR X r) (ha : PE X a ta) (hb : PE X b tb) (hs : PlainIx b) : PE X (.Subscript a b pos) (tOp r ta tb) := by
  intro pins s σ H Q I h
  exact Subscript_ (binT ha hb I h fun v u s2 x y H2 I2 rx ry q => hr a b pins s2 σ H2 x y v u Q I2 rx ry q (hs _ _))

def rIxL (K : PySem.W.Frag) : R2 := fun x y H Q => ∃ p xs i v, x = .ref p ∧ y = .int i ∧ SqL K H p xs ∧ atI xs i = some v ∧ Q v H
def rIxT (K : PySem.W.Frag) : R2 := fun x y H Q => ∃ p xs i v, x = .ref p ∧ y = .int i ∧ SqT K H p xs ∧ atI xs i = some v ∧ Q v H
theorem ix_list : IxR X (rIxL X.K) := by
  intro value slice pins s σ H x y v u Q I rx ry h hs
  obtain ⟨p, xs, i, z, rfl, rfl, hq, he, q⟩ := h
  cases rx
  obtain ⟨t, rfl⟩ := ry
  obtain ⟨its, r, pl, hz⟩ := I.list hq
  obtain ⟨j, h1, h2, h3, h4, h5⟩ := atI_get he
  obtain ⟨w, ew, rw'⟩ := r.get h2
  have hl := r.length
  have hn := line63
  have fin : EP X pins σ Q w s := ⟨z, H, I, rw', q⟩
  by_cases h0 : 0 ≤ i
  · have hj : i.toNat = j := by
      rw [seqIndex_of h0 h5] at h1
      exact Option.some.inj h1
    exact item_listR pl.isList h0 (by omega) (by rw [hj]; simpa using ew) fin hs
  · have hj : (i + (its.toArray.size : Int)).toNat = j := by
      rw [seqIndex_neg (by omega) h4] at h1
      rw [List.size_toArray, ← hl]
      exact Option.some.inj h1
    exact subscriptTail_builtinR (x := w) pl.isList.typeIs slot_list_getitem.lookup
      (wpAny_getItem_list_neg (Q := fun r s' => r = w ∧ EP X pins σ Q r s') pl.isList (by omega) (by rw [List.size_toArray] <;> omega) (by omega) (by rw [hj]; simpa using ew) ⟨rfl, fin⟩) hs
theorem ix_tup : IxR X (rIxT X.K) := by
  intro value slice pins s σ H x y v u Q I rx ry h hs
  obtain ⟨p, xs, i, z, rfl, rfl, hq, he, q⟩ := h
  cases rx
  obtain ⟨t, rfl⟩ := ry
  obtain ⟨its, r, pl, hz⟩ := I.tuple hq
  obtain ⟨j, h1, h2, h3, h4, h5⟩ := atI_get he
  obtain ⟨w, ew, rw'⟩ := r.get h2
  have hl := r.length
  have hn := line63
  have fin : EP X pins σ Q w s := ⟨z, H, I, rw', q⟩
  exact subscriptTail_builtinR (x := w) pl.typeIs slot_tuple_getitem.lookup
    (getItem_tuple (j := j) (Q := fun r s' => r = w ∧ EP X pins σ Q r s') pl (by omega) (by omega) (by rw [List.size_toArray, ← hl]; exact h1) (by simpa using ew) ⟨rfl, fin⟩) hs

/-! ### xs[i] = v, any sign -/

/-! ### slices -/
theorem slice_bounds (lo hi : Option Int) (n : Nat) : (sliceBounds lo hi none n).1 = ((HT.sIx n 0 lo : Nat) : Int) ∧ (sliceBounds lo hi none n).2.1 = ((HT.sIx n n hi : Nat) : Int) ∧ (sliceBounds lo hi none n).2.2 = 1 := by
  refine ⟨?_, ?_, rfl⟩
  · cases lo with
    | none => simp [sliceBounds, HT.sIx]
    | some i =>
      simp only [sliceBounds, HT.sIx, Option.getD_none, show (1 : Int) > 0 by decide, if_true]
      by_cases h : i < 0
      · simp only [h, if_true] <;> omega
      · simp only [h, if_false] <;> omega
  · cases hi with
    | none => simp [sliceBounds, HT.sIx]
    | some i =>
      simp only [sliceBounds, HT.sIx, Option.getD_none, show (1 : Int) > 0 by decide, if_true]
      by_cases h : i < 0
      · simp only [h, if_true] <;> omega
      · simp only [h, if_false] <;> omega
theorem slicePick_cut (its : List Value) (lo hi : Option Int) : slicePick its.toArray lo hi none = ((its.drop (HT.sIx its.length 0 lo)).take (HT.sIx its.length its.length hi - HT.sIx its.length 0 lo)).toArray := by
  obtain ⟨h1, h2, h3⟩ := slice_bounds lo hi its.toArray.size
  unfold slicePick
  rw [h1, h2, h3]
  simp only [sliceRange_one, pick_run, List.size_toArray] <;> rfl
/-- xs[lo:hi] of a list: a new list -/
def rSlL (K : PySem.W.Frag) : V → Option Int → Option Int → Hp → VK → Prop := fun x lo hi H Q => ∃ a xs, x = .ref a ∧ SqL K H a xs ∧ ∀ p, H p = none → Q (.ref p) (upd H p (.lst (cutV xs lo hi)))
theorem sl_list : SlR X (rSlL X.K) := by
  intro pins s σ H x v vl vu lo hi sl Q I rx hs pl pu h
  obtain ⟨a, xs, rfl, hx, q⟩ := h
  cases rx
  obtain ⟨its, r, ht, hz⟩ := I.list hx
  have hlen := r.length
  refine ⟨"list", _, slot_list_getitem.lookup, ht.isList.typeIs, ?_⟩
  refine wpAny_getItem_list_slice ht.isList hs pl pu .none (by simp) ?_ (by rw [List.size_toArray] <;> omega)
  rw [slicePick_cut, ← hlen]
  refine ⟨.ref s.heap.objs.size, _, I.laid (t' := s.toks) (o := .lst (cutV xs lo hi)) (fun b ob q => Heap.get?_push_of_some _ q) (Nat.le_refl _) ?_, rfl, q _ (I.hok.fresh (Nat.le_refl _))⟩
  exact ⟨Nat.le_trans (cutV_length xs lo hi) hz, _, 0, (r.drop (HT.sIx xs.length 0 lo)).take (HT.sIx xs.length xs.length hi - HT.sIx xs.length 0 lo), Heap.get?_push_size _ rfl⟩

/-! ### in, not in: flat items -/

/-! ### len, list(x), tuple(x) of any list or tuple that is read -/
theorem call_len_seq : CallR X (.builtin "len") (fun xs H Q => ∃ p ys, xs = [.ref p] ∧ (SqL X.K H p ys ∨ SqT X.K H p ys) ∧ Q (.int ys.length) H) := by
  intro pins s σ H xs us Q I r h
  obtain ⟨p, ys, rfl, hq, q⟩ := h
  obtain ⟨u, rfl, rx⟩ := vals1 r
  cases rx
  have hn := line63
  rcases hq with hq | hq
  · obtain ⟨its, r', pl, hz⟩ := I.list hq
    have hlen := r'.length
    exact Calls.call_len_list pl.isList (by simp only [List.size_toArray] <;> omega) ⟨.int ys.length, H, I.tok _, ⟨s.toks + 1, by rw [List.size_toArray, hlen]⟩, q⟩
  · obtain ⟨its, r', pl, hz⟩ := I.tuple hq
    have hlen := r'.length
    exact len_tuple pl (by simp only [List.size_toArray] <;> omega) ⟨.int ys.length, H, I.tok _, ⟨s.toks + 1, by rw [List.size_toArray, hlen]⟩, q⟩
theorem call_len_str : CallR X (.builtin "len") (fun xs H Q => ∃ z, xs = [.str z] ∧ z.length ≤ sizeLine ∧ Q (.int z.length) H) := by
  intro pins s σ H xs us Q I r h
  obtain ⟨z, rfl, hz, q⟩ := h
  obtain ⟨u, rfl, t, rfl⟩ := vals1 r
  have hn := line63
  exact len_str (by omega) ⟨.int z.length, H, I.tok _, ⟨_, rfl⟩, q⟩
theorem call_tuple_of : CallR X (.type "tuple") (fun xs H Q => ∃ p ys, xs = [.ref p] ∧ ((SqL X.K H p ys ∧ ∀ l, H l = none → Q (.ref l) (upd H l (.tup ys))) ∨ (SqT X.K H p ys ∧ Q (.ref p) H))) := by
  intro pins s σ H xs us Q I r h
  obtain ⟨p, ys, rfl, h⟩ := h
  obtain ⟨u, rfl, rx⟩ := vals1 r
  cases rx
  rcases h with ⟨hq, q⟩ | ⟨hq, q⟩
  · obtain ⟨its, r', pl, hz⟩ := I.list hq
    have hlen := r'.length
    refine call_tuple_list pl.isList (fun h' kp => ?_) (by simp only [List.size_toArray] <;> omega)
    have I1 : Inv X pins σ H { s with heap := h' } := I.kept (t' := s.toks) kp
    have I2 : Inv X pins σ (upd H h'.objs.size (.tup ys)) { s with heap := h'.push { cls := .type "tuple", data := .seq its.toArray } } :=
      I1.laid (t' := s.toks) (fun b o e => Heap.get?_push_of_some _ e) (Nat.le_refl _) (show ObjOk X.prog X.w _ _ _ (.tup ys) from ⟨hz, its, r', IsTup.new _ _⟩)
    exact ⟨.ref h'.objs.size, _, I2, rfl, q _ (I1.hok.fresh (Nat.le_refl _))⟩
  · obtain ⟨its, r', pl, hz⟩ := I.tuple hq
    exact call_tuple_same pl ⟨.ref p, H, I, rfl, q⟩

/-! ### the call of a builtin's method: o.m(..) -/
/-- the value is of that builtin type -/
def tyV (K : PySem.W.Frag) (T : String) (x : V) (H : Hp) : Prop := match x with
  | .str _ => T = "str"
  | .int _ => T = "int"
  | .ref p => (T = "list" ∧ ∃ xs, SqL K H p xs) ∨ (T = "tuple" ∧ ∃ o, K.lookup p = some o ∧ o.cls = .type "tuple" ∧ o.dict = none) ∨
      (T = "dict" ∧ ((∃ kvs, H p = some (.dK kvs)) ∨ ∃ kvs, H p = some (.dT kvs))) ∨ (T = "set" ∧ ∃ S n, H p = some (.set S n))
  | _ => False
theorem tyV_is {pins : List (Addr × Obj)} {σ : St} {H : Hp} {s : Shared} {T : String} {x : V} {v : Value} (I : Inv X pins σ H s) (r : RelV x v) (ty : tyV X.K T x H) :
    s.TypeIs v T ∧ ∀ a, v = .ref a → ∃ ob, s.heap.get? a = some ob ∧ ob.dict = none := by
  cases x with
  | str z =>
    obtain ⟨t, rfl⟩ := r
    cases (show T = "str" from ty)
    exact ⟨typeIs_str s z t, fun _ e => nomatch e⟩
  | int i =>
    obtain ⟨t, rfl⟩ := r
    cases (show T = "int" from ty)
    exact ⟨typeIs_int s i t, fun _ e => nomatch e⟩
  | ref p =>
    cases r
    rcases ty with ⟨rfl, xs, hq⟩ | ⟨rfl, o, hk, hc, hd⟩ | ⟨rfl, hk⟩ | ⟨rfl, S, n, hk⟩
    · obtain ⟨its, _, pl, _⟩ := I.list hq
      refine ⟨pl.isList.typeIs, fun a e => ?_⟩
      cases e
      obtain ⟨o, n, e, c, hd, _⟩ := pl
      exact ⟨o, e, hd⟩
    · refine ⟨⟨o, I.kIn p o hk, hc⟩, fun a e => ?_⟩
      cases e
      exact ⟨o, I.kIn _ o hk, hd⟩
    · have z : ∃ o, s.heap.get? p = some o ∧ o.ExactDict := by
        rcases hk with ⟨kvs, hk⟩ | ⟨kvs, hk⟩
        · obtain ⟨_, _, _, _, o, _, _, e, ex, _⟩ := I.hok p _ hk
          exact ⟨o, e, ex⟩
        · obtain ⟨_, _, _, _, o, _, _, e, ex, _⟩ := I.hok p _ hk
          exact ⟨o, e, ex⟩
      obtain ⟨o, e, ex⟩ := z
      refine ⟨⟨o, e, ex.1⟩, fun a e2 => ?_⟩
      cases e2
      exact ⟨o, e, ex.2.1⟩
    · obtain ⟨o, _, _, _, e, ex, _⟩ := I.hok p _ hk
      refine ⟨⟨o, e, ex.1⟩, fun a e2 => ?_⟩
      cases e2
      exact ⟨o, e, ex.2.1⟩
  | _ => exact False.elim ty
def tBM0 (K : PySem.W.Frag) (T : String) (r : V → List V → Hp → VK → Prop) (to : TE) : TE := fun σ H Q => to σ H fun x H1 => tyV K T x H1 ∧ r x [] H1 Q
def tBM (K : PySem.W.Frag) (T : String) (r : V → List V → Hp → VK → Prop) (to : TE) (t : TA) : TE := fun σ H Q => to σ H fun x H1 => tyV K T x H1 ∧ t σ H1 fun xs H2 => r x xs H2 Q
variable {o e : Expr} {es : List Expr} {to : TE} {t : TA} {name : Str} {apos cpos : Pos} {T id : String} {r : V → List V → Hp → VK → Prop}
theorem pe_bm0 (pa : PlainAttrs T) (slot : Slot T name id) (hty : typeOf (.builtin id) = pure (.type "method_descriptor")) (hm : MtR X id r) (ho : PE X o to)
    (hbase : attributeBase o name X.env (eval o X.env) = eval o X.env := by rfl) (hline : (apos.endLine == cpos.line) = true := by rfl) : PE X (.Call (.Attribute o name apos) [] [] cpos) (tBM0 X.K T r to) := by
  intro pins s σ H Q I h
  refine wpAny_Call_method0_late hbase hline (thn (ho pins s σ H _ I h) fun v s1 ⟨x, H1, I1, r1, ty, q1⟩ => ?_)
  obtain ⟨h1, h2⟩ := tyV_is I1 r1 ty
  exact ⟨T, id, pa, slot, hty, h1, h2, Calls.callWith_builtin rfl (PySem.evalArgs_none (hm pins s1 σ H1 x [] v [] Q I1 r1 .nil q1))⟩
theorem pe_bm (pa : PlainAttrs T) (slot : Slot T name id) (hty : typeOf (.builtin id) = pure (.type "method_descriptor")) (hm : MtR X id r) (ho : PE X o to) (ha : PA X (e :: es) t)
    (hbase : attributeBase o name X.env (eval o X.env) = eval o X.env := by rfl)
    (hfew : ((backTo cpos (starEach (e :: es) X.env)).all (fun x => !x.1) && (backToKw cpos (keywordEach [] X.env)).all (fun x => x.1.isSome)
      && decide ((e :: es).length + ([] : List Keyword).length + (if ([] : List Keyword).isEmpty then 0 else 1) < 30)) = true := by rfl)
    (hline : (apos.endLine == cpos.line) = true := by rfl) (hs : starEach (e :: es) X.env = (false, eval e X.env) :: starEach es X.env := by rfl) (hplain : (backTo cpos (starEach es X.env)).any (·.1) = false := by rfl) :
    PE X (.Call (.Attribute o name apos) (e :: es) [] cpos) (tBM X.K T r to t) := by
  intro pins s σ H Q I h
  refine wpAny_Call_method_late hbase hfew hline rfl (thn (ho pins s σ H _ I h) fun v s1 ⟨x, H1, I1, r1, ty, q1⟩ => ?_)
  obtain ⟨h1, h2⟩ := tyV_is I1 r1 ty
  refine ⟨T, id, pa, slot, hty, h1, h2, ?_⟩
  have hA := ha cpos pins s1 σ H1 _ I1 q1
  rw [hs] at hA ⊢
  refine Calls.callWith_builtin (by show (false || (backTo cpos (starEach es X.env)).any (·.1)) = false; rw [hplain] <;> rfl) (Calls.evalArgs_plain ?_)
  exact thn hA fun us s2 ⟨vs, H2, I2, r2, q2⟩ => hm pins s2 σ H2 x vs v us Q I2 r1 r2 q2
/- xs.append(e), list.index on a module's tuple .. are MtR facts of 06m -/
end
end L2

namespace L2
open PySem PySem.Spec PyProof.Rows

def MtM (X : Cx) (id : String) (r : V → List V → Hp → VK → Prop) : Prop :=
  ∀ (pins : List (Addr × Obj)) (s : Shared) (σ : St) (H : Hp) (x : V) (xs : List V) (v : Value) (us : List Value) (Q : VK), Inv X pins σ H s → RelV x v → Vals xs us → r x xs H Q →
    wpAny (model X.prog X.w) X.A (call (.builtin id) (v :: us)) (EP X pins σ Q) X.xe s

/-! ### lists of values -/
theorem Vals.one : ∀ {x : V} {us : List Value}, Vals [x] us → ∃ u, us = [u] ∧ RelV x u
  | _, _, .cons r .nil => ⟨_, rfl, r⟩
theorem Vals.zero : ∀ {us : List Value}, Vals [] us → us = []
  | _, .nil => rfl
theorem Vals.dropLast {xs : List V} {us : List Value} (h : Vals xs us) : Vals xs.dropLast us.dropLast := by
  induction h with
  | nil => exact .nil
  | cons r t ih =>
    cases t with
    | nil => exact .nil
    | cons q t' => exact .cons r ih
theorem erase_last {α : Type} (l : List α) : l.eraseIdx (l.length - 1) = l.dropLast := by
  induction l with
  | nil => rfl
  | cons a r ih =>
    cases r with
    | nil => rfl
    | cons b r =>
      have e : (a :: b :: r).length - 1 = ((b :: r).length - 1) + 1 := by
        have h1 : (a :: b :: r).length = r.length + 2 := rfl
        have h2 : (b :: r).length = r.length + 1 := rfl
        omega
      rw [e, List.eraseIdx_cons_succ, ih]
      all_goals rfl

section
variable {X : Cx} {pins : List (Addr × Obj)} {σ : St} {H : Hp} {s : Shared} {l b : Addr} {xs ys zs : List V}

/-! ### the two steps: a tracked list is rewritten, a new list is laid -/
theorem Inv.lset {its its' : List Value} {n : Nat} {f : Array Value → Array Value} {t' : Nat} (I : Inv X pins σ H s) (hH : H l = some (.lst xs))
    (e : s.heap.get? l = some { cls := .type "list", data := .seq its.toArray n }) (hf : f its.toArray = its'.toArray) (hv : Vals ys its') (hz : ys.length ≤ sizeLine) :
    Inv X pins σ (upd H l (.lst ys)) { s with heap := s.heap.update l (Obj.mapSeq f), toks := t' } := by
  have q := PySem.IsL.update e f
  rw [hf] at q
  refine I.write (x := l) (e := l) (by rw [hH]; exact trivial) (.inl rfl) (fun b' u hb hu => (Heap.get?_update_other s.heap (Obj.mapSeq f) (Ne.symm hb)).trans hu) ⟨_, q⟩ ?_
  exact ⟨hz, its', _, hv, q⟩
theorem Inv.lnew {its : List Value} {t' : Nat} (I : Inv X pins σ H s) (hv : Vals ys its) (hz : ys.length ≤ sizeLine) :
    Inv X pins σ (upd H s.heap.objs.size (.lst ys)) { s with heap := s.heap.push { cls := .type "list", data := .seq its.toArray }, toks := t' } :=
  I.laid (fun _ _ q => Heap.get?_push_of_some _ q) (Nat.le_refl _) ⟨hz, its, 0, hv, Heap.get?_push_size _ rfl⟩
theorem Inv.fresh (I : Inv X pins σ H s) : H s.heap.objs.size = none := I.hok.fresh (Nat.le_refl _)
theorem Inv.lstM (I : Inv X pins σ H s) (hH : H l = some (.lst xs)) : xs.length ≤ sizeLine ∧ ∃ (its : List Value) (n : Nat), Vals xs its ∧ xs.length = its.length ∧ s.heap.get? l = some { cls := .type "list", data := .seq its.toArray n } := by
  obtain ⟨z, its, n, r, e⟩ := I.hok l _ hH
  exact ⟨z, its, n, r, r.length, e⟩

theorem notLongL {n : Nat} (h : n ≤ sizeLine) : Builtin.List.listTooLong n = false := by
  unfold Builtin.List.listTooLong
  exact decide_eq_false (by omega)
end

section
variable {X : Cx}

/-! ### methods -/
def rAppend : V → List V → Hp → VK → Prop := fun x vs H Q => ∃ l xs y, x = .ref l ∧ vs = [y] ∧ H l = some (.lst xs) ∧ xs.length < sizeLine ∧ Q .non (upd H l (.lst (xs ++ [y])))
theorem mt_append : MtM X "list.append" rAppend := by
  intro pins s σ H x vs v us Q I rx rv h
  obtain ⟨l, xs, y, rfl, rfl, hH, hz, q⟩ := h
  cases rx
  obtain ⟨u, rfl, ru⟩ := rv.one
  obtain ⟨z, its, n, r, hl, e⟩ := I.lstM hH
  refine call_meets F.slot_list_append ⟨_, e, rfl⟩ F.entry_list_append (F.args_list_append_2 _ _) (PySem.list_append l its.toArray n u (by rw [List.size_toArray]; omega)) ⟨e, ?_⟩
  refine ⟨.non, _, I.lset (its' := its ++ [u]) hH e (by simp) (r.append (.cons ru .nil)) ?_, rfl, q⟩
  rw [List.length_append, List.length_singleton]
  omega

def rExtend : V → List V → Hp → VK → Prop := fun x vs H Q => ∃ l b xs zs, x = .ref l ∧ vs = [.ref b] ∧ H l = some (.lst xs) ∧ H b = some (.lst zs) ∧ xs.length + zs.length ≤ sizeLine ∧ Q .non (upd H l (.lst (xs ++ zs)))
theorem mt_extend : MtM X "list.extend" rExtend := by
  intro pins s σ H x vs v us Q I rx rv h
  obtain ⟨l, b, xs, zs, rfl, rfl, hH, hB, hz, q⟩ := h
  cases rx
  obtain ⟨u, rfl, ru⟩ := rv.one
  cases ru
  obtain ⟨z, its, n, r, hl, e⟩ := I.lstM hH
  obtain ⟨z2, its2, n2, r2, hl2, e2⟩ := I.lstM hB
  have hsz : its.toArray.size + its2.toArray.size ≤ sizeLine := by rw [List.size_toArray, List.size_toArray]; omega
  have hlong : ¬ (!its.toArray.isEmpty && Builtin.List.listTooLong (its.toArray.size + its2.toArray.size)) = true := by
    rw [notLongL hsz, Bool.and_false]
    exact Bool.false_ne_true
  refine call_meets F.slot_list_extend ⟨_, e, rfl⟩ F.entry_list_extend (F.args_list_extend_2 _ _)
    (AutoSeq1.list_extend_list_list_0 l its.toArray n b its2.toArray n2 hlong (by rw [List.size_toArray]; omega) (by omega)) ⟨e, e2, ?_⟩
  refine ⟨.non, _, I.lset (its' := its ++ its2) hH e (by simp) (r.append r2) ?_, rfl, q⟩
  rw [List.length_append]
  omega

def rPop : V → List V → Hp → VK → Prop := fun x vs H Q => ∃ l xs y, x = .ref l ∧ vs = [] ∧ H l = some (.lst xs) ∧ xs[xs.length - 1]? = some y ∧ Q y (upd H l (.lst xs.dropLast))
theorem mt_pop : MtM X "list.pop" rPop := by
  intro pins s σ H x vs v us Q I rx rv h
  obtain ⟨l, xs, y, rfl, rfl, hH, hy, q⟩ := h
  cases rx
  have hus := rv.zero
  subst hus
  obtain ⟨z, its, n, r, hl, e⟩ := I.lstM hH
  obtain ⟨u, hu, ru⟩ := r.get hy
  have hy' : its.toArray[its.toArray.size - 1]? = some u := by
    show its.toArray[its.length - 1]? = some u
    rw [← Array.getElem?_toList, ← hl]
    exact hu
  refine call_meets F.slot_list_pop ⟨_, e, rfl⟩ F.entry_list_pop (F.args_list_pop_1 _) (MeetsSeq.list_pop_last l its.toArray n u hy' (by rw [List.size_toArray]; omega)) ⟨e, ?_⟩
  refine ⟨y, _, I.lset (its' := its.dropLast) hH e ?_ r.dropLast ?_, ru, q⟩
  · show its.toArray.eraseIdxIfInBounds (its.toArray.size - 1) = its.dropLast.toArray
    rw [List.size_toArray, List.eraseIdxIfInBounds_toArray, erase_last]
  · rw [List.length_dropLast]
    omega




/-! ### list + list, list += list, list * int -/
def rCat : R2 := fun x y H Q => ∃ l b xs zs, x = .ref l ∧ y = .ref b ∧ H l = some (.lst xs) ∧ H b = some (.lst zs) ∧ xs.length + zs.length ≤ sizeLine ∧ ∀ p, H p = none → Q (.ref p) (upd H p (.lst (xs ++ zs)))
theorem op_cat : OpR X (binaryOp .Add) rCat := by
  intro pins s σ H x y v u Q I rx ry h
  obtain ⟨l, b, xs, zs, rfl, rfl, hH, hB, hz, q⟩ := h
  cases rx
  cases ry
  obtain ⟨z, its, n, r, hl, e⟩ := I.lstM hH
  obtain ⟨z2, its2, n2, r2, hl2, e2⟩ := I.lstM hB
  refine PySem.P.add_list e e2 ?_ (by rw [List.size_toArray, List.size_toArray]; omega)
  have ea : its.toArray ++ its2.toArray = (its ++ its2).toArray := by simp
  rw [ea]
  exact ⟨.ref _, _, I.lnew (t' := s.toks) (r.append r2) (by rw [List.length_append]; omega), rfl, q _ I.fresh⟩

/-! ### del xs[i] -/
end

/-! ### xs[a:b] = ys -/
section
variable {prog : Program} {w : World} {A : Around} {E : Value → Shared → Prop} {s : Shared}
end

section
variable {X : Cx}
end
end L2

namespace L2
open PySem PySem.Spec PyProof.Rows


/-! ### the library's walks over a list of ints, kept objects alone -/
section
variable {prog : Program} {w : World} {A : Around} {E : Value → Shared → Prop} {s : Shared} {l : Addr} {its : List Value} {ns : List Int} {Q : Value → Shared → Prop}
end

/-! ### the calls, by values (CallR of 03t; MtR of 06l) -/
section
variable {X : Cx}

/-! sorted, sort (fewer than 64 items: the library's own bound) -/
end

/-! ### list.index, flat items -/
section
variable {X : Cx}
end

/-! ### type(x) of an own instance; is, is not of a module's class -/
section
variable {X : Cx}
end

/-! ### any(xs), all(xs) of a list of bools -/
section
variable {X : Cx}
end

/-! ### == and != of data at any depth: none, bools, ints, texts, lists, tuples -/
mutual
inductive Dp (K : PySem.W.Frag) (H : Hp) : V → PyData → Prop
  | non : Dp K H .non .none
  | bl (b : Bool) : Dp K H (.bl b) (.bool b)
  | int (i : Int) : Dp K H (.int i) (.int i)
  | str (x : Str) : Dp K H (.str x) (.str x)
  | lst {a : Addr} {xs : List V} {ds : List PyData} : SqL K H a xs → DpAll K H xs ds → Dp K H (.ref a) (.list ds)
  | tup {a : Addr} {xs : List V} {ds : List PyData} : SqT K H a xs → DpAll K H xs ds → Dp K H (.ref a) (.tuple ds)
inductive DpAll (K : PySem.W.Frag) (H : Hp) : List V → List PyData → Prop
  | nil : DpAll K H [] []
  | cons {v : V} {vs : List V} {d : PyData} {ds : List PyData} : Dp K H v d → DpAll K H vs ds → DpAll K H (v :: vs) (d :: ds)
end
section
variable {X : Cx} {pins : List (Addr × Obj)} {σ : St} {H : Hp} {s : Shared}
mutual
theorem Dp.reads (I : Inv X pins σ H s) : ∀ (d : PyData) (v : V) (u : Value), Dp X.K H v d → RelV v u → ∃ as, Reads s.heap u d as
  | .none, _, _, h, r => by
    cases h
    cases r
    exact ⟨_, Reads.none⟩
  | .bool b, _, _, h, r => by
    cases h
    cases r
    exact ⟨_, Reads.bool b⟩
  | .int i, _, _, h, r => by
    cases h
    obtain ⟨t, rfl⟩ := r
    exact ⟨_, Reads.int i t⟩
  | .str x, _, _, h, r => by
    cases h
    obtain ⟨t, rfl⟩ := r
    exact ⟨_, Reads.str x t⟩
  | .list ds, _, _, h, r => by
    cases h with
    | lst hs ha =>
      cases r
      obtain ⟨its, rv, ⟨o, n, ho, hc, _, hd⟩, _⟩ := I.list hs
      obtain ⟨as, hr⟩ := Dp.readsAll I ds _ its ha rv
      exact ⟨_, Reads.list ho hc hd hr⟩
  | .tuple ds, _, _, h, r => by
    cases h with
    | tup hs ha =>
      cases r
      obtain ⟨its, rv, ⟨o, ho, hc, n, hd⟩, _⟩ := I.tuple hs
      obtain ⟨as, hr⟩ := Dp.readsAll I ds _ its ha rv
      exact ⟨_, Reads.tuple ho hc hd hr⟩
  | .dict _, _, _, h, _ => by cases h
theorem Dp.readsAll (I : Inv X pins σ H s) : ∀ (ds : List PyData) (vs : List V) (us : List Value), DpAll X.K H vs ds → Vals vs us → ∃ as, ReadsAll s.heap us ds as
  | [], _, _, h, r => by
    cases h
    cases r
    exact ⟨_, ReadsAll.nil⟩
  | d :: ds, _, _, h, r => by
    cases h with
    | cons h1 h2 =>
      cases r with
      | cons r1 r2 =>
        obtain ⟨as, q1⟩ := Dp.reads I d _ _ h1 r1
        obtain ⟨bs, q2⟩ := Dp.readsAll I ds _ _ h2 r2
        exact ⟨_, ReadsAll.cons q1 q2⟩
end
end
section
variable {X : Cx}
def rEqD (K : PySem.W.Frag) : R2 := fun x y H Q => ∃ d e, Dp K H x d ∧ Dp K H y e ∧ SeqAt.shaped d = true ∧ SeqAt.shaped e = true ∧ Q (.bl (PyData.eqv d e)) H
theorem op_eqD (hu : X.A.units + 64 < cLine) : OpR X (compareOp .Eq) (rEqD X.K) := by
  intro pins s σ H x y v u Q I rx ry h
  obtain ⟨d, e, hd, he, sd, se, q⟩ := h
  obtain ⟨as, r1⟩ := Dp.reads I d x v hd rx
  obtain ⟨bs, r2⟩ := Dp.reads I e y u he ry
  exact SeqAt.compareEq_shaped r1 r2 sd se hu ⟨.bl _, H, I, rfl, q⟩
end
end L2

namespace L2
open PySem PySem.Spec PyProof.Rows
abbrev CellAt (h : Heap) (c : Addr) (v : Option Value) : Prop := h.IsCell c v
def relS (scope sc : Scope) : Scope :=
  { scope with names := scope.names.map fun (n, k) => if (k == .free && sc.kind == .function && sc.names.lookup n == some .cell) then (n, .cell) else (n, k) }

def cloFrom (cells : List (Str × Addr)) : List (Str × NameKind) → List (Str × Addr) → List (Str × Addr)
  | [], acc => acc
  | (n, k) :: r, acc => if k == .free then cloFrom cells r ((n, (cells.lookup n).getD 0) :: acc) else cloFrom cells r acc

theorem closure_loop (env : Env) (f : Str × NameKind → List (Str × Addr) → Sem (ForInStep (List (Str × Addr))))
    (hf : ∀ n k c, f (n, k) c = if k == .free then (do let a ← cellOf env n; pure (.yield ((n, a) :: c))) else pure (.yield c)) :
    ∀ (names : List (Str × NameKind)) (acc : List (Str × Addr)), (∀ y ∈ names, y.2 = .free → ∃ c, env.cells.lookup y.1 = some c) → forIn names acc f = pure (cloFrom env.cells names acc)
  | [], acc, _ => by rw [List.forIn_nil]; rfl
  | (n, k) :: r, acc, h => by
    rw [List.forIn_cons, hf]
    have ih := fun acc => closure_loop env f hf r acc fun y hy => h y (List.mem_cons_of_mem _ hy)
    unfold cloFrom
    by_cases hk : (k == NameKind.free) = true
    · rw [if_pos hk, if_pos hk]
      obtain ⟨c, hc⟩ := h (n, k) List.mem_cons_self (by simpa using hk)
      have e : cellOf env n = pure c := by unfold cellOf; rw [hc]
      rw [e]
      have e2 : (env.cells.lookup n).getD 0 = c := by rw [hc]; rfl
      rw [e2]
      exact ih _
    · rw [if_neg hk, if_neg hk]
      exact ih _
theorem closure_ok {scope : Scope} {env : Env} (h : ∀ y ∈ scope.names, y.2 = .free → ∃ c, env.cells.lookup y.1 = some c) : closureFor scope env = pure (cloFrom env.cells scope.names []) := by
  simp only [closureFor]
  rw [closure_loop env _ (fun n k c => rfl) scope.names [] h]
  rfl

theorem mem_lookup {α : Type} : ∀ {l : List (Str × α)} {n : Str} {c : α}, (n, c) ∈ l → ∃ c', l.lookup n = some c'
  | (k, v) :: r, n, c, h => by
    rw [List.lookup_cons]
    cases hb : n == k with
    | true => exact ⟨_, rfl⟩
    | false =>
      rcases List.mem_cons.mp h with e | h
      · cases e; simp at hb
      · exact mem_lookup h

theorem cloFrom_mem {cells : List (Str × Addr)} : ∀ {names : List (Str × NameKind)} {acc : List (Str × Addr)} {n : Str} {c : Addr}, (n, c) ∈ cloFrom cells names acc → (n, c) ∈ acc ∨ ((n, .free) ∈ names ∧ c = (cells.lookup n).getD 0)
  | [], _, _, _, h => .inl h
  | (m, k) :: r, acc, n, c, h => by
    unfold cloFrom at h
    split at h
    · rename_i hk
      have hk : k = .free := by simpa using hk
      rcases cloFrom_mem h with h | ⟨h1, h2⟩
      · rcases List.mem_cons.mp h with e | h
        · cases e; exact .inr ⟨hk ▸ List.mem_cons_self, rfl⟩
        · exact .inl h
      · exact .inr ⟨List.mem_cons_of_mem _ h1, h2⟩
    · rcases cloFrom_mem h with h | ⟨h1, h2⟩
      · exact .inl h
      · exact .inr ⟨List.mem_cons_of_mem _ h1, h2⟩
theorem cloFrom_acc {cells : List (Str × Addr)} : ∀ {names : List (Str × NameKind)} {acc : List (Str × Addr)} {p : Str × Addr}, p ∈ acc → p ∈ cloFrom cells names acc
  | [], _, _, h => h
  | (m, k) :: r, acc, p, h => by
    unfold cloFrom
    split
    · exact cloFrom_acc (List.mem_cons_of_mem _ h)
    · exact cloFrom_acc h
theorem cloFrom_has {cells : List (Str × Addr)} : ∀ {names : List (Str × NameKind)} {acc : List (Str × Addr)} {n : Str}, (n, .free) ∈ names → (n, (cells.lookup n).getD 0) ∈ cloFrom cells names acc
  | (m, k) :: r, acc, n, h => by
    unfold cloFrom
    rcases List.mem_cons.mp h with e | h
    · cases e
      exact cloFrom_acc List.mem_cons_self
    · split
      · exact cloFrom_has h
      · exact cloFrom_has h

theorem cells_mem : ∀ {names : List (Str × NameKind)} {h : Heap} {acc : List (Str × Addr)} {x : Str} {c : Addr}, (x, c) ∈ cellsFrom h.objs.size names acc →
    (x, c) ∈ acc ∨ ((x, .cell) ∈ names ∧ h.objs.size ≤ c ∧ CellAt (pushCells h names) c none)
  | [], _, _, _, _, h => .inl h
  | (n, k) :: r, h, acc, x, c, hm => by
    unfold cellsFrom at hm
    unfold pushCells
    split at hm
    · rename_i hk
      rw [if_pos hk]
      have hk : k = .cell := by simpa using hk
      rw [← Heap.size_push h { cls := .type "cell", data := .cell none }] at hm
      rcases cells_mem hm with hm | ⟨h1, h2, h3⟩
      · rcases List.mem_cons.mp hm with e | hm
        · cases e
          exact .inr ⟨hk ▸ List.mem_cons_self, Nat.le_refl _, _, pushCells_keeps r _ _ _ (Heap.get?_push_size _ rfl), rfl⟩
        · exact .inl hm
      · rw [Heap.size_push] at h2
        exact .inr ⟨List.mem_cons_of_mem _ h1, Nat.le_of_succ_le h2, h3⟩
    · rename_i hk
      rw [if_neg hk]
      rcases cells_mem hm with hm | ⟨h1, h2, h3⟩
      · exact .inl hm
      · exact .inr ⟨List.mem_cons_of_mem _ h1, h2, h3⟩
theorem cells_acc : ∀ {names : List (Str × NameKind)} {n : Nat} {acc : List (Str × Addr)} {p : Str × Addr}, p ∈ acc → p ∈ cellsFrom n names acc
  | [], _, _, _, h => h
  | (m, k) :: r, n, acc, p, h => by
    unfold cellsFrom
    split
    · exact cells_acc (List.mem_cons_of_mem _ h)
    · exact cells_acc h
theorem cells_has : ∀ {names : List (Str × NameKind)} {n : Nat} {acc : List (Str × Addr)} {x : Str}, (x, .cell) ∈ names → ∃ c, (x, c) ∈ cellsFrom n names acc
  | (m, k) :: r, n, acc, x, h => by
    unfold cellsFrom
    rcases List.mem_cons.mp h with e | h
    · cases e
      exact ⟨n, cells_acc List.mem_cons_self⟩
    · split
      · exact cells_has h
      · exact cells_has h
theorem cells_inj : ∀ {names : List (Str × NameKind)} {h : Heap} {acc : List (Str × Addr)} {x y : Str} {c : Addr}, (∀ p ∈ acc, p.2 < h.objs.size) → (∀ x y c, (x, c) ∈ acc → (y, c) ∈ acc → x = y) →
    (x, c) ∈ cellsFrom h.objs.size names acc → (y, c) ∈ cellsFrom h.objs.size names acc → x = y
  | [], _, _, _, _, _, _, hi, h1, h2 => hi _ _ _ h1 h2
  | (n, k) :: r, h, acc, x, y, c, hl, hi, h1, h2 => by
    unfold cellsFrom at h1 h2
    split at h1
    · rename_i hk
      rw [if_pos hk] at h2
      rw [← Heap.size_push h { cls := .type "cell", data := .cell none }] at h1 h2
      refine cells_inj (h := h.push _) (fun p hp => ?_) (fun x y c a b => ?_) h1 h2
      · rw [Heap.size_push]
        rcases List.mem_cons.mp hp with rfl | hp
        · exact Nat.lt_succ_self _
        · exact Nat.lt_succ_of_lt (hl p hp)
      · rcases List.mem_cons.mp a with e | a <;> rcases List.mem_cons.mp b with e' | b
        · cases e; cases e'; rfl
        · cases e; exact absurd (hl _ b) (Nat.lt_irrefl _)
        · cases e'; exact absurd (hl _ a) (Nat.lt_irrefl _)
        · exact hi _ _ _ a b
    · rename_i hk
      rw [if_neg hk] at h2
      exact cells_inj hl hi h1 h2

theorem newEnv_comp {M : Model} {A : Around} {E : Value → Shared → Prop} {s : Shared} {scope : Scope} {globals : Addr} {closure : List (Str × Addr)} {qual : Str} {func : Option Addr} {code : Value} {around : Env} {builtins : Addr} {Q : Env → Shared → Prop}
    (h : Q (newEnv scope s.heap.objs.size globals (cellsFrom (s.heap.objs.size + 1) scope.names closure) qual func code (some around) builtins)
      { s with heap := pushCells (s.heap.push { cls := .type "dict", data := .dict #[] }) scope.names }) :
    wpAny M A (newFunctionEnv scope globals closure [] qual func code (some around) builtins) Q E s := by
  simp only [newFunctionEnv, Option.isSome_some, if_true]
  refine wpAny_bind (wpAny_alloc ?_)
  refine wpAny_bind (wpAny_layCells _ (fun n k c => rfl) scope.names closure _ _ ?_)
  rw [show ({ s with heap := s.heap.push { cls := .type "dict", data := .dict #[] } } : Shared).heap.objs.size = s.heap.objs.size + 1 from Heap.size_push ..]
  rw [List.forIn_nil]
  exact wpAny_bind (wpAny_pure (wpAny_pure h))

/-- every name of the written scope, in the scope that runs -/
theorem lookup_relS {sc : Scope} : ∀ {names : List (Str × NameKind)} {x : Str} {k : NameKind},
    (names.map fun (n, k) => if (k == NameKind.free && sc.kind == .function && sc.names.lookup n == some .cell) then (n, NameKind.cell) else (n, k)).lookup x = some k →
    ∃ k', names.lookup x = some k' ∧ (k = k' ∨ (k' = .free ∧ k = .cell))
  | [], _, _, h => by simp at h
  | (n, k₀) :: r, x, k, h => by
    have ih := @lookup_relS sc r x k
    have h' : List.lookup x ((if (k₀ == NameKind.free && sc.kind == .function && sc.names.lookup n == some .cell) = true then (n, NameKind.cell) else (n, k₀)) :: (r.map _)) = some k := h
    cases hx : x == n with
    | true =>
      simp only [List.lookup_cons, hx]
      by_cases hc : (k₀ == NameKind.free && sc.kind == .function && sc.names.lookup n == some .cell) = true
      · rw [if_pos hc] at h'
        simp only [List.lookup_cons, hx] at h'
        cases h'
        simp only [Bool.and_eq_true, beq_iff_eq] at hc
        exact ⟨k₀, rfl, .inr ⟨hc.1.1, rfl⟩⟩
      · rw [if_neg hc] at h'
        simp only [List.lookup_cons, hx] at h'
        cases h'
        exact ⟨_, rfl, .inl rfl⟩
    | false =>
      simp only [List.lookup_cons, hx]
      by_cases hc : (k₀ == NameKind.free && sc.kind == .function && sc.names.lookup n == some .cell) = true
      · rw [if_pos hc] at h'
        simp only [List.lookup_cons, hx] at h'
        exact ih h'
      · rw [if_neg hc] at h'
        simp only [List.lookup_cons, hx] at h'
        exact ih h'



/-- the names of a comprehension's block: its own (with their places in N), or captured -/
structure BlkOk (N : List Str) (sc scope : Scope) (own : List (Str × Nat)) : Prop where
  kind : scope.kind = .function
  uniq : ∀ y ∈ scope.names, scope.names.lookup y.1 = some y.2
  ix : ∀ p ∈ own, N[p.2]? = some p.1
  free : ∀ y ∈ scope.names, y.2 = .free → sc.names.lookup y.1 = some .cell ∨ sc.names.lookup y.1 = some .free
  own : ∀ y ∈ scope.names, y.2 = .local ∨ y.2 = .cell → y.1 ∈ own.map (·.1) ∨ y.1 ∉ N
/-- the slots of the block's own names forgotten -/
def wipe (σ : St) : List Nat → St
  | [] => σ
  | v :: vs => (wipe σ vs).set v none
theorem wipe_length (σ : St) : ∀ vs : List Nat, (wipe σ vs).length = σ.length
  | [] => rfl
  | v :: vs => by unfold wipe; rw [List.length_set, wipe_length σ vs]
theorem wipe_some {σ : St} {i : Nat} {x : V} : ∀ {vs : List Nat}, (wipe σ vs)[i]? = some (some x) → σ[i]? = some (some x) ∧ i ∉ vs
  | [], h => ⟨h, by simp⟩
  | v :: vs, h => by
    unfold wipe at h
    by_cases hi : v = i
    · subst hi
      by_cases hv : v < (wipe σ vs).length
      · rw [List.getElem?_set_self hv] at h; cases h
      · rw [List.getElem?_eq_none (by simpa using hv)] at h; cases h
    · rw [List.getElem?_set_ne hi] at h
      obtain ⟨h1, h2⟩ := wipe_some h
      exact ⟨h1, by simp only [List.mem_cons, not_or]; exact ⟨fun e => hi e.symm, h2⟩⟩

/-- the context of a block that starts at s, its iterator's objects at fp -/
abbrev Cx.blk (X : Cx) (s : Shared) (H : Hp) (scope : Scope) (cenv : Env) (fp : List Addr) : Cx := { X with s_0 := s, H_0 := H, env := cenv, outer := X.stack, ex := fp, fn := fun x => scope.names.lookup x == some .cell, pn := [], xe := fun _ _ => False }
section
variable {X : Cx} {pins : List (Addr × Obj)} {σ : St} {H : Hp} {s : Shared}
theorem block_start {scope : Scope} {own : List (Str × Nat)} {fp : List Addr} (I : Inv X pins σ H s) (ok : BlkOk X.N X.env.scope scope own) (hN : X.N.Nodup) (hfp : ∀ b ∈ fp, FpOk X pins H b ∧ b < s.heap.objs.size) :
    Inv (X.blk s H scope (compEnvC scope (cellsFrom (s.heap.objs.size + 1) scope.names (cloFrom X.env.cells scope.names [])) s.heap.objs.size X.env) fp) [] (wipe σ (own.map (·.2))) H { s with heap := pushCells (s.heap.push { cls := .type "dict", data := .dict #[] }) scope.names } := by
  have hfree : ∀ y ∈ scope.names, y.2 = .free → ∃ c, X.env.cells.lookup y.1 = some c := fun y hy e => by
    rcases ok.free y hy e with k | k
    · exact I.ok.has _ (.inl k)
    · exact I.ok.has _ (.inr k)
  generalize hcenv : compEnvC scope (cellsFrom (s.heap.objs.size + 1) scope.names (cloFrom X.env.cells scope.names [])) s.heap.objs.size X.env = cenv
  have kp : ∀ b o, s.heap.get? b = some o → (pushCells (s.heap.push { cls := .type "dict", data := .dict #[] }) scope.names).get? b = some o := fun b o e => pushCells_keeps _ _ _ _ (Heap.get?_push_of_some _ e)
  have hL : cenv.locals = s.heap.objs.size := by rw [← hcenv]; rfl
  have hcl : cenv.cells = cellsFrom (s.heap.objs.size + 1) scope.names (cloFrom X.env.cells scope.names []) := by rw [← hcenv]; rfl
  have hsc : cenv.scope = relS scope X.env.scope := by rw [← hcenv]; rfl
  rw [← Heap.size_push s.heap { cls := .type "dict", data := .dict #[] }] at hcl
  have cm : ∀ {y c}, (y, c) ∈ cloFrom X.env.cells scope.names [] → X.env.cells.lookup y = some c ∧ c < s.heap.objs.size := fun {y c} hm => by
    rcases cloFrom_mem hm with hm | ⟨h1, rfl⟩
    · cases hm
    · obtain ⟨c, hc⟩ := hfree _ h1 rfl
      rw [hc]
      obtain ⟨w, z⟩ := I.cell _ _ hc
      exact ⟨rfl, z.lt⟩
  have mem : ∀ {y c}, cenv.cells.lookup y = some c → (X.env.cells.lookup y = some c ∧ c < s.heap.objs.size) ∨ (s.heap.objs.size + 1 ≤ c ∧ CellAt (pushCells (s.heap.push { cls := .type "dict", data := .dict #[] }) scope.names) c none) := fun {y c} e => by
    rw [hcl] at e
    rcases cells_mem (PySem.mem_of_lookup e) with hm | ⟨_, h2, h3⟩
    · exact .inl (cm hm)
    · rw [Heap.size_push] at h2; exact .inr ⟨h2, h3⟩
  have look : ∀ {y}, scope.names.lookup y = some .free → ∃ c, cenv.cells.lookup y = some c ∧ X.env.cells.lookup y = some c := fun {y} hl => by
    have hy : (y, NameKind.free) ∈ scope.names := PySem.mem_of_lookup hl
    obtain ⟨c', e'⟩ := mem_lookup (cells_acc (names := scope.names) (n := (s.heap.push { cls := .type "dict", data := .dict #[] }).objs.size) (cloFrom_has (cells := X.env.cells) (acc := []) hy))
    rw [← hcl] at e'
    refine ⟨c', e', ?_⟩
    rw [hcl] at e'
    rcases cells_mem (PySem.mem_of_lookup e') with hm | ⟨h1, _, _⟩
    · exact (cm hm).1
    · have := ok.uniq _ h1
      rw [hl] at this; cases this
  have okB : (X.blk s H scope cenv fp).Ok := by
    refine ⟨I.ok.mod, by show cenv.scope.kind = _; rw [hsc]; exact ok.kind, by show cenv.globals = _; rw [← hcenv]; exact I.ok.glob, by show cenv.builtins = _; rw [← hcenv]; exact I.ok.blt, by show s.heap.objs.size ≤ cenv.locals; rw [hL]; exact Nat.le_refl _,
      fun y z c e1 e2 => ?_, fun y hy => ?_, fun y c z e => ?_, I.ok.hd, I.ok.frames, .inl rfl, fun b hb => ⟨?_, fun y c e z => ?_⟩, I.bs, Nat.le_trans I.ok.bsz I.sz, fun b o e hb => ?_, fun b hb z => ?_, I.stack, I.stkFree⟩
    · have e1 : cenv.cells.lookup y = some c := e1
      have e2 : cenv.cells.lookup z = some c := e2
      rw [hcl] at e1 e2
      refine cells_inj (fun p hp => ?_) (fun y z c a b => I.ok.inj y z c (cm a).1 (cm b).1) (PySem.mem_of_lookup e1) (PySem.mem_of_lookup e2)
      rw [Heap.size_push]
      exact Nat.lt_succ_of_lt (cm (y := p.1) (c := p.2) hp).2
    · show ∃ c, cenv.cells.lookup y = some c
      have key : ∀ k, cenv.kindOf y = some k → (k = .cell ∨ k = .free) → ∃ c, cenv.cells.lookup y = some c := fun k hk hk' => by
        unfold Env.kindOf at hk
        rw [hsc] at hk
        obtain ⟨k', e, r⟩ := lookup_relS hk
        have : k' = .cell ∨ k' = .free := by
          rcases r with rfl | ⟨rfl, _⟩
          · exact hk'
          · exact .inr rfl
        rcases this with rfl | rfl
        · obtain ⟨c, hm⟩ := cells_has (n := (s.heap.push { cls := .type "dict", data := .dict #[] }).objs.size) (acc := cloFrom X.env.cells scope.names []) (PySem.mem_of_lookup e)
          obtain ⟨c', e'⟩ := mem_lookup hm
          exact ⟨c', by rw [hcl]; exact e'⟩
        · obtain ⟨c, h1, _⟩ := look e
          exact ⟨c, h1⟩
      rcases hy with hy | hy
      · exact key _ hy (.inl rfl)
      · exact key _ hy (.inr rfl)
    · have z : (scope.names.lookup y == some NameKind.cell) = true := z
      have z : scope.names.lookup y = some .cell := by simpa using z
      have e : cenv.cells.lookup y = some c := e
      rw [hcl] at e
      rcases cells_mem (PySem.mem_of_lookup e) with hm | ⟨_, h2, _⟩
      · rcases cloFrom_mem hm with hm | ⟨h1, _⟩
        · cases hm
        · have q := ok.uniq _ h1
          rw [z] at q; cases q
      · rw [Heap.size_push] at h2
        exact Nat.le_of_succ_le h2
    · show b ≠ cenv.locals
      rw [hL]; exact Nat.ne_of_lt (hfp b hb).2
    · have e : cenv.cells.lookup y = some c := e
      rcases mem e with ⟨h1, _⟩ | ⟨h1, _⟩
      · exact (hfp b hb).1.2.2.2.2.1 y c h1 z
      · have h2 : s.heap.objs.size + 1 ≤ b := by rw [← z]; exact h1
        exact absurd (Nat.lt_of_lt_of_le (hfp b hb).2 (Nat.le_of_succ_le h2)) (Nat.lt_irrefl _)
    · rcases (hfp b hb).1.2.2.2.1 with z | z
      · exact I.ok.noex b o e z
      · exact absurd (Nat.lt_of_lt_of_le (Heap.lt_size e) (Nat.le_trans I.ok.bsz z)) (Nat.lt_irrefl _)
    · rcases List.mem_cons.mp (I.stkSub b z) with z | z
      · exact (hfp b hb).1.2.1 z
      · exact (hfp b hb).1.2.2.1 z
  refine ⟨okB, rfl, I.bare, Un.kept kp, ⟨fun _ => none, ?_, fun i y av e1 e2 e3 => ?_⟩, fun y c e => ?_, ?_, fun y c e => ?_, fun p hp => ?_, I.hok.kept kp, by rw [wipe_length]; exact I.len⟩
  · show Heap.Ns _ cenv.locals _
    rw [hL]
    exact Heap.Ns.keeps (Heap.Ns.new ..) fun b o e => pushCells_keeps _ _ _ _ e
  · obtain ⟨e2, hne⟩ := wipe_some e2
    have hfr : scope.names.lookup y = some .free ∧ (cenv.kindOf y = some .cell ∨ cenv.kindOf y = some .free) := by
      have key : ∀ k, cenv.scope.names.lookup y = some k → k = .local ∨ k = .cell ∨ k = .free → scope.names.lookup y = some .free ∧ (cenv.kindOf y = some .cell ∨ cenv.kindOf y = some .free) := fun k hk hk' => by
        have hk0 := hk
        rw [hsc] at hk
        obtain ⟨k', e, r⟩ := lookup_relS hk
        have no : ¬ (k' = .local ∨ k' = .cell) := fun hh => by
          rcases ok.own _ (PySem.mem_of_lookup e) hh with e' | e'
          · obtain ⟨p, hp, hpy⟩ := List.mem_map.mp e'
            have e3 := ok.ix p hp
            have : p.1 = y := hpy
            rw [this] at e3
            exact hne (List.mem_map.mpr ⟨p, hp, nodup_ix hN e3 e1⟩)
          · exact e' (List.mem_of_getElem? e1)
        rcases r with rfl | ⟨rfl, rfl⟩
        · rcases hk' with rfl | rfl | rfl
          · exact absurd (.inl rfl) no
          · exact absurd (.inr rfl) no
          · exact ⟨e, .inr hk0⟩
        · exact ⟨e, .inl hk0⟩
      have e3 : Vis cenv.scope y := e3
      rcases e3 with e3 | e3 | e3
      · exact key _ e3 (.inl rfl)
      · exact key _ e3 (.inr (.inl rfl))
      · exact key _ e3 (.inr (.inr rfl))
    obtain ⟨m, hn, hl⟩ := I.loc
    have hvis : Vis X.env.scope y := (ok.free _ (PySem.mem_of_lookup hfr.1) rfl).elim (fun k => .inr (.inl k)) (fun k => .inr (.inr k))
    obtain ⟨w, r, q⟩ := hl i y av e1 e2 hvis
    refine ⟨w, r, .inr ⟨hfr.2, ?_⟩⟩
    obtain ⟨c, h1, h2⟩ := look hfr.1
    rcases q with ⟨k, _⟩ | ⟨_, c', e', z⟩
    · have k : X.env.scope.names.lookup y = some .local := k
      rcases ok.free _ (PySem.mem_of_lookup hfr.1) rfl with k' | k' <;> rw [show X.env.scope.names.lookup y = _ from k'] at k <;> cases k
    · rw [h2] at e'; cases e'
      exact ⟨c, h1, z.keeps kp⟩
  · have e : cenv.cells.lookup y = some c := e
    rcases mem e with ⟨h1, _⟩ | ⟨_, z⟩
    · obtain ⟨w, z⟩ := I.cell y c h1
      exact ⟨w, z.keeps kp⟩
    · exact ⟨_, z⟩
  · show H cenv.locals = none
    rw [hL]; exact I.hok.fresh (Nat.le_refl _)
  · have e : cenv.cells.lookup y = some c := e
    rcases mem e with ⟨h1, _⟩ | ⟨h1, _⟩
    · exact I.freeC y c h1
    · exact I.hok.fresh (Nat.le_of_succ_le h1)
  · exact absurd (show p ∈ ([] : List (Addr × Obj)) ++ [] from hp) (by simp)

/-- an item appended to a tracked list -/
theorem app_ok {E : Value → Shared → Prop} {D : Addr} {xs : List V} {y : V} {v : Value} {Q : Value → Shared → Prop} (I : Inv X pins σ H s) (hD : H D = some (.lst xs)) (hz : xs.length < sizeLine) (r : RelV y v)
    (h : ∀ s', Inv X pins σ (upd H D (.lst (xs ++ [y]))) s' → Q .none s') : wpAny (model X.prog X.w) X.A (call (.builtin "list.append") [.ref D, v]) Q E s := by
  obtain ⟨hz', its, n, ri, e⟩ := I.hok D _ hD
  have hl := ri.length
  refine append_at (hsz := by rw [List.size_toArray]; omega) e fun h' sb ho' => ?_
  refine h { s with heap := h' } (I.write (t' := s.toks) (by rw [hD]; trivial) (.inl rfl) (fun b u hb q => (sb.2 b hb).trans q) ⟨_, ho'⟩ ⟨by rw [List.length_append]; exact hz, its ++ [v], n + 1, ri.append (.cons r .nil), ?_⟩)
  rw [ho']
  simp

/-- a clause's tests -/
def PTs (X : Cx) (ifs : List Expr) (t : TT) : Prop :=
  ∀ (pins : List (Addr × Obj)) (s : Shared) (σ : St) (H : Hp) (Q : Bool → Hp → Prop), Inv X pins σ H s → t σ H Q →
    wpAny (model X.prog X.w) X.A (forIn ifs true fun c r => if r = true then do let ok ← isTrue c X.env (eval c X.env); pure (ForInStep.yield ok) else pure (ForInStep.yield r)) (TP X pins σ Q) X.xe s
def tYes : TT := fun _ H Q => Q true H
theorem pts_nil : PTs X [] tYes := fun _ _ _ H _ I h => wpAny_tests_nil ⟨H, I, h⟩
theorem pts_one {c : Expr} {t : TT} (h : PT X c t) : PTs X [c] t := fun pins s σ H Q I hw => wpAny_tests_one (h pins s σ H Q I hw)
end

theorem thnF {α : Type} {t : Sem α} {Q Q' : α → Shared → Prop} {M : Model} {A : Around} {E : Value → Shared → Prop} {s : Shared} (h : wpAny M A t Q (fun _ _ => False) s) (hQ : ∀ a s, Q a s → Q' a s) : wpAny M A t Q' E s := wpAny_mono h hQ fun _ _ z => False.elim z

/-- the loop of a list comprehension's block, the target of any form (codeAny_compLoop_tests asks a target that no tuple goes to; statement and proof follow it, PyProof/CompMap.lean:41-61, with the step letOwnedTupleGo kept) -/
theorem compLoop_any {prog : Program} {w : World} {A : Around} {R : Result → Shared → Prop} {s : Shared} {elt target iter : Expr} {ifs : List Expr} {scope : Scope} {pos : Pos} {it acc : Value} {env : Env} (I : Nat → Shared → Prop)
    (turn : ∀ n s, I n s → wpAny (model prog w) A (pyNext it) (fun r s₁ => match r with
      | none => R (.ok .next) s₁
      | some v => wpAny (model prog w) A (letOwnedTupleGo target it v) (fun _ s₁' => wpAny (model prog w) A (assign target env v) (fun _ s₂ =>
          wpAny (model prog w) A (forIn ifs true fun c r => if r = true then do let ok ← isTrue c env (eval c env); pure (ForInStep.yield ok) else pure (ForInStep.yield r)) (fun ok s₃ =>
            if ok = true then wpAny (model prog w) A (eval elt env) (fun x s₄ =>
              wpAny (model prog w) A (call (.builtin "list.append") [acc, x]) (fun _ s₅ => ∃ m, m < n ∧ I m s₅) (notedBy (model prog w) A env fun e s' => R (.error e) s') s₄) (notedBy (model prog w) A env fun e s' => R (.error e) s') s₃
            else ∃ m, m < n ∧ I m s₃) (notedBy (model prog w) A env fun e s' => R (.error e) s') s₂) (notedBy (model prog w) A env fun e s' => R (.error e) s') s₁') (notedBy (model prog w) A env fun e s' => R (.error e) s') s₁) (notedBy (model prog w) A env fun e s' => R (.error e) s') s)
    (n : Nat) (h : I n s) :
    codeAny (model prog w) A (.compLoop (.ListComp elt [⟨target, iter, ifs, 0⟩] scope pos) 0 it acc env) R s := by
  refine codeAny_loop rfl I (fun n s hI => ?_) n h
  show wpAny _ A ((compTurn (.ListComp elt [⟨target, iter, ifs, 0⟩] scope pos) 0 it acc env).onRaise (fun x => do noteFrame x env; theTreesLotGoes x)) _ _ s
  refine wpAny_noted ?_
  rw [compTurn_list]
  refine wpAny_bind (wpAny_standAt (wpAny_bind (wpAny_mono (turn n s hI) (fun r s₁ h₁ => ?_) fun _ _ h' => h')))
  cases r with
  | none => exact wpAny_pure h₁
  | some v =>
    refine wpAny_bind (wpAny_mono h₁ (fun _ s₁' h₁' => ?_) fun _ _ h' => h')
    refine wpAny_bind (wpAny_mono h₁' (fun _ s₂ h₂ => wpAny_bind (wpAny_mono h₂ (fun ok s₃ h₃ => ?_) fun _ _ h' => h')) fun _ _ h' => h')
    cases ok with
    | false => exact wpAny_pure ⟨rfl, h₃⟩
    | true =>
      exact wpAny_bind (wpAny_bind (wpAny_mono h₃ (fun x s₄ h₄ => wpAny_bind (wpAny_mono h₄ (fun _ s₅ h₅ => wpAny_pure (wpAny_pure ⟨rfl, h₅⟩)) fun _ _ h' => h')) fun _ _ h' => h'))

section
variable {X : Cx}
/-- [elt for target in iter if ..]: D the new list; W by the turn and a measure, Nx what a turn is to reach -/
def tLc (wi : TI) (g : TG) (tt : TT) (te : TE) (vs : List Nat) : TE := fun σ H Q => wi σ H fun J H1 => ∀ D, H1 D = none → ∃ W : Nat → Nat → Hp → Prop, (∃ m, W 0 m (upd H1 D (.lst []))) ∧ ∀ i m H, W i m H →
  (J.stop i H ∧ Q (.ref D) H) ∨ (J.go i H ∧ ∃ Nx : Hp → Prop, (∀ H', Nx H' → ∃ m', m' < m ∧ W (i + 1) m' H') ∧ ∀ x H', J.yld i H x H' → g x (wipe σ vs) H' fun σ2 H2 => wipe σ2 vs = wipe σ vs ∧ tt σ2 H2 fun b H3 =>
    if b = true then te σ2 H3 fun y H4 => ∃ acc, H4 D = some (.lst acc) ∧ acc.length < sizeLine ∧ Nx (upd H4 D (.lst (acc ++ [y]))) else Nx H3)
theorem lc_core {pins : List (Addr × Obj)} {s : Shared} {σ : St} {H : Hp} {Q : VK} {elt tg iter : Expr} {ifs : List Expr} {scope : Scope} {own : List (Str × Nat)} {pos pos' : Pos} {wi : TI} {g : TG} {tt : TT} {te : TE} {use : Option (Value → Sem Unit)} {Qf : Value → Shared → Prop}
    (hc : X.calm = true) (hN : X.N.Nodup) (I : Inv X pins σ H s) (hi : PI X tg iter wi) (ok : BlkOk X.N X.env.scope scope own)
    (hg : ∀ (s : Shared) (H : Hp) (C : Addr) (cl : List (Str × Addr)) (fp : List Addr), PG (X.blk s H scope (compEnvC scope cl C X.env) fp) tg g) (ht : ∀ (s : Shared) (H : Hp) (C : Addr) (cl : List (Str × Addr)) (fp : List Addr), PTs (X.blk s H scope (compEnvC scope cl C X.env) fp) ifs tt)
    (he : ∀ (s : Shared) (H : Hp) (C : Addr) (cl : List (Str × Addr)) (fp : List Addr), PE (X.blk s H scope (compEnvC scope cl C X.env) fp) elt te) (hs : ∀ x, foldedSetIterable iter X.env x = pure x)
    (h : tLc wi g tt te (own.map (·.2)) σ H Q)
    (hRR : ∀ D C s' m H', Inv X pins σ H' s' → Q (.ref D) H' → s'.heap.Ns C m → FpOk X pins H' C → compPost (model X.prog X.w) X.A X.xe use Qf (.ref D) C (.ok .next) s') :
    wpAny (model X.prog X.w) X.A (comprehension (.ListComp elt [⟨tg, iter, ifs, 0⟩] scope pos) scope X.env pos' (newList []) false (eval iter X.env) use) Qf X.xe s := by
  have hfree : ∀ y ∈ scope.names, y.2 = .free → ∃ c, X.env.cells.lookup y.1 = some c := fun y hy e => by
    rcases ok.free y hy e with k | k
    · exact I.ok.has _ (.inl k)
    · exact I.ok.has _ (.inr k)
  refine wpAny_comprehension_free (use := use) rfl hs (closure_ok hfree) ok.kind (fun y hy e => by rw [ok.uniq y hy, e])
    (thn (hi pins s σ H _ I h) fun xv s1 hx => thn hx fun itv s2 h2 => ?_)
  obtain ⟨it, fp, tn, J, H2, e, I2, T, st2, f2, q⟩ := h2
  subst e
  refine wpAny_newObj_type (newEnv_comp ?_) (by show 0 ≤ sizeLine; decide)
  generalize hD : s2.heap.objs.size = D
  have hDn : H2 D = none := I2.hok.fresh (Nat.le_of_eq hD)
  obtain ⟨W, ⟨m0, w0⟩, turn⟩ := q D hDn
  -- the new list
  generalize hs3 : ({ s2 with heap := s2.heap.push { cls := .type "list", data := .seq ([] : List Value).toArray } } : Shared) = s3
  have I3 : Inv X pins σ (upd H2 D (.lst [])) s3 := by
    rw [← hs3]
    refine I2.laid (t' := s2.toks) (fun b o e => Heap.get?_push_of_some _ e) (Nat.le_of_eq hD) ⟨Nat.zero_le _, [], 0, .nil, ?_⟩
    rw [← hD]
    exact Heap.get?_push_size _ rfl
  have h3 : s3.heap = s2.heap.push { cls := .type "list", data := .seq ([] : List Value).toArray } := by rw [← hs3]
  have sz : ∀ b ∈ fp, b < s2.heap.objs.size := fun b hb => by
    obtain ⟨o, e, _⟩ := T.obj _ _ st2 b hb
    exact Heap.lt_size e
  have f3 : ∀ b ∈ fp, FpOk X pins (upd H2 D (.lst [])) b ∧ b < s3.heap.objs.size := fun b hb => by
    have hlt := sz b hb
    refine ⟨⟨?_, (f2 b hb).2⟩, by rw [h3, Heap.size_push]; exact Nat.lt_succ_of_lt hlt⟩
    rw [upd_ne (by rw [← hD]; exact Nat.ne_of_lt hlt)]
    exact (f2 b hb).1
  have st3 : tn 0 s3.heap := T.keep _ _ _ st2 fun b _ o e => by rw [h3]; exact Heap.get?_push_of_some _ e
  have I4 := block_start I3 ok hN f3
  have pg := hg s3 (upd H2 D (.lst [])) s3.heap.objs.size (cellsFrom (s3.heap.objs.size + 1) scope.names (cloFrom X.env.cells scope.names [])) fp
  have pt := ht s3 (upd H2 D (.lst [])) s3.heap.objs.size (cellsFrom (s3.heap.objs.size + 1) scope.names (cloFrom X.env.cells scope.names [])) fp
  have pe := he s3 (upd H2 D (.lst [])) s3.heap.objs.size (cellsFrom (s3.heap.objs.size + 1) scope.names (cloFrom X.env.cells scope.names [])) fp
  show codeAny _ _ (.compStart (.ListComp elt [⟨tg, iter, ifs, 0⟩] scope pos) 0 (.ref it) (.ref D) (compEnvC scope (cellsFrom (s3.heap.objs.size + 1) scope.names (cloFrom X.env.cells scope.names [])) s3.heap.objs.size X.env)) (compPost (model X.prog X.w) X.A X.xe use Qf (.ref D) s3.heap.objs.size) { s3 with heap := pushCells (s3.heap.push { cls := .type "dict", data := .dict #[] }) scope.names }
  have nfp : ∀ b ∈ fp, (upd H2 D (.lst [])) b = none := fun b hb => (f3 b hb).1.1
  generalize hce : compEnvC scope (cellsFrom (s3.heap.objs.size + 1) scope.names (cloFrom X.env.cells scope.names [])) s3.heap.objs.size X.env = ce at I4 pg pt pe ⊢
  have cL : ce.locals = s3.heap.objs.size := by subst hce; rfl
  generalize hH3 : upd H2 D (.lst []) = H3 at I3 I4 pg pt pe w0 nfp f3
  generalize hs4 : ({ s3 with heap := pushCells (s3.heap.push { cls := .type "dict", data := .dict #[] }) scope.names } : Shared) = s4 at I4 ⊢
  have st4 : tn 0 s4.heap := T.keep _ _ _ st3 fun b _ o e => by rw [← hs4]; exact pushCells_keeps _ _ _ _ (Heap.get?_push_of_some _ e)
  have stat : ∀ {σ' : St} {H' : Hp} {s' : Shared}, Inv (X.blk s3 H3 scope ce fp) [] σ' H' s' → (∀ b ∈ fp, H' b = none) → ∀ b ∈ fp, FpOk (X.blk s3 H3 scope ce fp) [] H' b := fun {σ' H' s'} I' hn b hb =>
    ⟨hn b hb, (I'.ok.exf b hb).1, I'.ok.exfs b hb, .inl hb, fun x c e => (I'.ok.exf b hb).2 x c e, fun p hp => absurd (show p ∈ ([] : List (Addr × Obj)) ++ [] from hp) (by simp)⟩
  have loop : codeAny (model X.prog X.w) X.A (.compLoop (.ListComp elt [⟨tg, iter, ifs, 0⟩] scope pos) 0 (.ref it) (.ref D) ce) (compPost (model X.prog X.w) X.A X.xe use Qf (.ref D) s3.heap.objs.size) s4 := by
    refine compLoop_any (fun n s' => ∃ i H', Inv (X.blk s3 H3 scope ce fp) [] (wipe σ (own.map (·.2))) H' s' ∧ tn i s'.heap ∧ (∀ b ∈ fp, H' b = none) ∧ W i n H') ?_ m0 ⟨0, H3, I4, st4, nfp, w0⟩
    rintro n s5 ⟨i, H5, I5, st5, n5, w5⟩
    rcases turn i n H5 w5 with ⟨stop, qq⟩ | ⟨go, Nx, hNx, step⟩
    · have td := T.done (X.blk s3 H3 scope ce fp) rfl rfl rfl hc i [] s5 _ H5 (fun _ _ => False) I5 (stat I5 n5) st5 stop
      refine thnF td fun r s6 ⟨hr, I6⟩ => ?_
      subst hr
      -- back in the def's context
      have I7 : Inv X pins σ H5 s6 := I3.call' (ch := fp) I6.os I6.base I6.hok I6.bare fun b hb => ⟨(f3 b hb).1.2.2.2.1, (f3 b hb).1.2.1, (f3 b hb).1.2.2.2.2.1, (f3 b hb).1.2.2.2.2.2⟩
      have nC : H5 s3.heap.objs.size = none := by
        have z : H5 ce.locals = none := I6.free
        rw [cL] at z
        exact z
      obtain ⟨m, hn, _⟩ := I6.loc
      have hn : s6.heap.Ns ce.locals m := hn
      rw [cL] at hn
      exact hRR D s3.heap.objs.size s6 m H5 I7 qq hn (I3.fpOk (Nat.le_refl _) nC)
    · have ti := T.item (X.blk s3 H3 scope ce fp) rfl rfl rfl hc i [] s5 _ H5 (fun _ _ => False) I5 (stat I5 n5) st5 go
      refine thnF ti fun r s6 ⟨u, hr, h6⟩ => ?_
      subst hr
      refine thnF h6 fun _ s7 ⟨x, H7, I7, r7, y7, st7, n7⟩ => ?_
      have I7' := I7.pinned (stat I7 n7) (T.obj _ _ st7)
      refine thnF (pg _ s7 _ H7 x u _ I7' r7 (step x H7 y7)) fun _ s8 ⟨σ8, H8, I8, hw8, q8⟩ => ?_
      refine thnF (pt _ s8 σ8 H8 _ I8 q8) fun b s9 ⟨H9, I9, q9⟩ => ?_
      -- the turn's end
      have fin : ∀ {s' : Shared} {H' : Hp}, Inv (X.blk s3 H3 scope ce fp) ([] ++ pinsAt fp s7.heap) σ8 H' s' → Nx H' → ∃ m, m < n ∧ ∃ i H', Inv (X.blk s3 H3 scope ce fp) [] (wipe σ (own.map (·.2))) H' s' ∧ tn i s'.heap ∧ (∀ b ∈ fp, H' b = none) ∧ W i m H' := fun {s' H'} I' nx => by
        obtain ⟨m', hm, w'⟩ := hNx H' nx
        have pin' : ∀ b ∈ fp, ∀ o, s7.heap.get? b = some o → s'.heap.get? b = some o ∧ H' b = none := fun b hb o e =>
          let z := I'.pin (b, o) (List.mem_append_right _ (List.mem_append_right _ (mem_pinsAt hb e)))
          ⟨z.1, z.2.1⟩
        have hl : (wipe σ (own.map (·.2))).length = σ8.length := by rw [← hw8, wipe_length]
        refine ⟨m', hm, i + 1, H', (I'.unpinned (pins := [])).weak hl (fun j v e => ?_), T.keep _ _ _ st7 fun b hb o e => (pin' b hb o e).1, fun b hb => ?_, w'⟩
        · rw [← hw8] at e
          exact (wipe_some e).1
        · obtain ⟨o, e, _⟩ := T.obj _ _ st7 b hb
          exact (pin' b hb o e).2
      cases b with
      | false =>
        simp only [Bool.false_eq_true, if_false] at q9 ⊢
        exact fin I9 q9
      | true =>
        simp only [if_true] at q9 ⊢
        refine thnF (pe _ s9 σ8 H9 _ I9 q9) fun z s10 ⟨yv, H10, I10, r10, acc, hD10, hz10, nx⟩ => ?_
        exact app_ok (X := X.blk s3 H3 scope ce fp) I10 hD10 hz10 r10 fun s11 I11 => fin I11 nx
  exact codeAny_compStart_list loop (T.self X.A 0 _ _ _ st4 loop)
/-- as a value -/
theorem pe_lc {elt tg iter : Expr} {ifs : List Expr} {scope : Scope} {own : List (Str × Nat)} {pos : Pos} {wi : TI} {g : TG} {tt : TT} {te : TE} (hc : X.calm = true) (hN : X.N.Nodup) (hi : PI X tg iter wi) (ok : BlkOk X.N X.env.scope scope own)
    (hg : ∀ (s : Shared) (H : Hp) (C : Addr) (cl : List (Str × Addr)) (fp : List Addr), PG (X.blk s H scope (compEnvC scope cl C X.env) fp) tg g) (ht : ∀ (s : Shared) (H : Hp) (C : Addr) (cl : List (Str × Addr)) (fp : List Addr), PTs (X.blk s H scope (compEnvC scope cl C X.env) fp) ifs tt)
    (he : ∀ (s : Shared) (H : Hp) (C : Addr) (cl : List (Str × Addr)) (fp : List Addr), PE (X.blk s H scope (compEnvC scope cl C X.env) fp) elt te) (hs : ∀ x, foldedSetIterable iter X.env x = pure x := by intro _; rfl) :
    PE X (.ListComp elt [⟨tg, iter, ifs, 0⟩] scope pos) (tLc wi g tt te (own.map (·.2))) := by
  intro pins s σ H Q I h
  rw [eval_ListComp]
  refine lc_core hc hN I hi ok hg ht he hs h fun D C s' m H' I' q hn f => ⟨m, hn, fun h'' sb => ?_⟩
  obtain ⟨f0, f1, f2, f3, f4, f5⟩ := f
  exact ⟨.ref D, H', I'.turned (t' := s'.toks) (fun b o hb e => (sb.2 b hb).trans e) f0 f1 f3 f4 f5, rfl, q⟩
/-- name = [..] on one line, the name a local -/
theorem ps_setLc {i : Nat} {y : Str} {py : Pos} {elt tg iter : Expr} {ifs : List Expr} {scope : Scope} {own : List (Str × Nat)} {pos spos : Pos} {wi : TI} {g : TG} {tt : TT} {te : TE} (hc : X.calm = true) (hN : X.N.Nodup) (hy : X.N[i]? = some y) (hyl : X.env.scope.names.lookup y = some .local)
    (hsw : swapsWith (.ListComp elt [⟨tg, iter, ifs, 0⟩] scope pos) (some (.Name y py)) spos.line X.env = pure true) (hi : PI X tg iter wi) (ok : BlkOk X.N X.env.scope scope own)
    (hg : ∀ (s : Shared) (H : Hp) (C : Addr) (cl : List (Str × Addr)) (fp : List Addr), PG (X.blk s H scope (compEnvC scope cl C X.env) fp) tg g) (ht : ∀ (s : Shared) (H : Hp) (C : Addr) (cl : List (Str × Addr)) (fp : List Addr), PTs (X.blk s H scope (compEnvC scope cl C X.env) fp) ifs tt)
    (he : ∀ (s : Shared) (H : Hp) (C : Addr) (cl : List (Str × Addr)) (fp : List Addr), PE (X.blk s H scope (compEnvC scope cl C X.env) fp) elt te) (hs : ∀ x, foldedSetIterable iter X.env x = pure x := by intro _; rfl) :
    PS X (.Assign [.Name y py] (.ListComp elt [⟨tg, iter, ifs, 0⟩] scope pos) spos) (tAsg (tLc wi g tt te (own.map (·.2))) (gName i)) := by
  intro pins s σ H D I h
  rw [exec_Assign_Name_used _ _ _ _ hsw]
  refine wpAny_bind (wpAny_standAt (wpAny_bind ?_))
  show wpAny _ X.A (do let _ ← comprehension (.ListComp elt [⟨tg, iter, ifs, 0⟩] scope pos) scope X.env (firstIterPos [⟨tg, iter, ifs, 0⟩] pos) (newList []) false (eval iter X.env) (some (assign (.Name y py) X.env))) _ _ s
  have h : tLc wi g tt te (own.map (·.2)) σ H (fun x H1 => gName i x σ H1 D.nx) := h
  refine wpAny_bind (thn (lc_core (Qf := fun _ s' => SP X pins D .next s') hc hN I hi ok hg ht he hs h fun L C s' m H' I' q hn f => ?_) fun _ s' hq => wpAny_pure (wpAny_pure hq))
  show wpAny _ _ (assign (.Name y py) X.env (.ref L)) _ _ _
  refine wpAny_assign_Name (store_ok2 (v := V.ref L) I' hN hy (.inl hyl) rfl (fun s2 I2 ⟨a, sb, ha⟩ => ?_) (.inr hyl))
  obtain ⟨f0, f1, f2, f3, f4, f5⟩ := f
  have haC : C ≠ a := by
    rcases ha with z | z
    · rw [z]; exact f1
    · exact fun e => f4 y a z e.symm
  refine ⟨m, hn.sameBut sb haC, fun h3 sb3 => ?_⟩
  exact ⟨_, H', I2.turned (t' := s2.toks) (fun b o hb e => (sb3.2 b hb).trans e) f0 f1 f3 f4 f5, q⟩
end

/-! ### the forms one uses -/
/-- over a list that the block leaves as it is -/
theorem lc_list {K : PySem.W.Frag} {a : Addr} {xs : List V} {g : TG} {tt : TT} {te : TE} {vs : List Nat} {σ : St} {H1 : Hp} {D : Addr} {Qd : Hp → Prop} (Pv : Nat → Hp → Prop) (h0 : Pv 0 (upd H1 D (.lst []))) (hl : ∀ i H, i ≤ xs.length → Pv i H → SqL K H a xs)
    (hs : ∀ i x H, xs[i]? = some x → Pv i H → g x (wipe σ vs) H fun σ2 H2 => wipe σ2 vs = wipe σ vs ∧ tt σ2 H2 fun b H3 =>
      if b = true then te σ2 H3 fun y H4 => ∃ acc, H4 D = some (.lst acc) ∧ acc.length < sizeLine ∧ Pv (i + 1) (upd H4 D (.lst (acc ++ [y]))) else Pv (i + 1) H3) (hd : ∀ H, Pv xs.length H → Qd H) :
    ∃ W : Nat → Nat → Hp → Prop, (∃ m, W 0 m (upd H1 D (.lst []))) ∧ ∀ i m H, W i m H →
      ((Itl K a).stop i H ∧ Qd H) ∨ ((Itl K a).go i H ∧ ∃ Nx : Hp → Prop, (∀ H', Nx H' → ∃ m', m' < m ∧ W (i + 1) m' H') ∧ ∀ x H', (Itl K a).yld i H x H' → g x (wipe σ vs) H' fun σ2 H2 => wipe σ2 vs = wipe σ vs ∧ tt σ2 H2 fun b H3 =>
        if b = true then te σ2 H3 fun y H4 => ∃ acc, H4 D = some (.lst acc) ∧ acc.length < sizeLine ∧ Nx (upd H4 D (.lst (acc ++ [y]))) else Nx H3) := by
  refine ⟨fun i m H => m = xs.length - i ∧ i ≤ xs.length ∧ Pv i H, ⟨xs.length, by simp, Nat.zero_le _, h0⟩, ?_⟩
  rintro i m H ⟨rfl, hi, p⟩
  have q := hl i H hi p
  by_cases hlt : i < xs.length
  · refine .inr ⟨⟨xs, xs[i], q, by simp [hlt]⟩, Pv (i + 1), fun H' p' => ⟨xs.length - (i + 1), by omega, rfl, hlt, p'⟩, fun x H' y => ?_⟩
    obtain ⟨e, y⟩ := y
    subst e
    exact hs i x _ (y xs q) p
  · have e : i = xs.length := by omega
    subst e
    exact .inl ⟨⟨xs, q, Nat.le_refl _⟩, hd H p⟩
/-- over a tuple -/
theorem lc_tup {K : PySem.W.Frag} {a : Addr} {xs : List V} {g : TG} {tt : TT} {te : TE} {vs : List Nat} {σ : St} {H1 : Hp} {D : Addr} {Qd : Hp → Prop} (Pv : Nat → Hp → Prop) (h0 : Pv 0 (upd H1 D (.lst []))) (hl : ∀ i H, i ≤ xs.length → Pv i H → SqT K H a xs)
    (hs : ∀ i x H, xs[i]? = some x → Pv i H → g x (wipe σ vs) H fun σ2 H2 => wipe σ2 vs = wipe σ vs ∧ tt σ2 H2 fun b H3 =>
      if b = true then te σ2 H3 fun y H4 => ∃ acc, H4 D = some (.lst acc) ∧ acc.length < sizeLine ∧ Pv (i + 1) (upd H4 D (.lst (acc ++ [y]))) else Pv (i + 1) H3) (hd : ∀ H, Pv xs.length H → Qd H) :
    ∃ W : Nat → Nat → Hp → Prop, (∃ m, W 0 m (upd H1 D (.lst []))) ∧ ∀ i m H, W i m H →
      ((Itt K a).stop i H ∧ Qd H) ∨ ((Itt K a).go i H ∧ ∃ Nx : Hp → Prop, (∀ H', Nx H' → ∃ m', m' < m ∧ W (i + 1) m' H') ∧ ∀ x H', (Itt K a).yld i H x H' → g x (wipe σ vs) H' fun σ2 H2 => wipe σ2 vs = wipe σ vs ∧ tt σ2 H2 fun b H3 =>
        if b = true then te σ2 H3 fun y H4 => ∃ acc, H4 D = some (.lst acc) ∧ acc.length < sizeLine ∧ Nx (upd H4 D (.lst (acc ++ [y]))) else Nx H3) := by
  refine ⟨fun i m H => m = xs.length - i ∧ i ≤ xs.length ∧ Pv i H, ⟨xs.length, by simp, Nat.zero_le _, h0⟩, ?_⟩
  rintro i m H ⟨rfl, hi, p⟩
  have q := hl i H hi p
  by_cases hlt : i < xs.length
  · refine .inr ⟨⟨xs, xs[i], q, by simp [hlt]⟩, Pv (i + 1), fun H' p' => ⟨xs.length - (i + 1), by omega, rfl, hlt, p'⟩, fun x H' y => ?_⟩
    obtain ⟨e, y⟩ := y
    subst e
    exact hs i x _ (y xs q) p
  · have e : i = xs.length := by omega
    subst e
    exact .inl ⟨⟨xs, q, Nat.le_refl _⟩, hd H p⟩
end L2

namespace L2
open PySem PySem.Spec PyProof.Rows


section
variable {prog : Program} {w : World} {A : Around} {R : Result → Shared → Prop} {s : Shared} {elt t0 i0 t1 i1 : Expr} {ifs0 ifs1 : List Expr} {scope : Scope} {pos : Pos} {it acc : Value} {env : Env}
end

section
variable {X : Cx}
end
end L2

namespace L2
open PySem PySem.Spec PyProof.Rows

/-! ### lists of pairs as tables -/
section
variable {κ : Type} [DecidableEq κ]
def valV (kvs : List (κ × V)) (k : κ) : Option V := (kvs.find? fun kv => decide (kv.1 = k)).map (·.2)
/-- in its place, or at the end -/
def putK (kvs : List (κ × V)) (k : κ) (v : V) : List (κ × V) :=
  if (kvs.any fun kv => decide (kv.1 = k)) = true then kvs.map (fun kv => if kv.1 = k then (kv.1, v) else kv) else kvs ++ [(k, v)]

theorem valV_pos {p : κ × V} {r : List (κ × V)} {k : κ} (e : p.1 = k) : valV (p :: r) k = some p.2 := by simp [valV, List.find?_cons, e]
theorem valV_neg {p : κ × V} {r : List (κ × V)} {k : κ} (e : ¬ p.1 = k) : valV (p :: r) k = valV r k := by simp [valV, List.find?_cons, e]
theorem valV_any (k : κ) : ∀ kvs : List (κ × V), (kvs.any fun kv => decide (kv.1 = k)) = (valV kvs k).isSome
  | [] => rfl
  | p :: r => by
    rw [List.any_cons]
    by_cases e : p.1 = k
    · simp only [valV_pos e, decide_eq_true e, Bool.true_or, Option.isSome_some]
    · rw [valV_neg e, decide_eq_false e, Bool.false_or]; exact valV_any k r
theorem valV_map (k j : κ) (y : V) : ∀ kvs : List (κ × V), valV (kvs.map fun kv => if kv.1 = k then (kv.1, y) else kv) j = (valV kvs j).map fun x => if j = k then y else x
  | [] => rfl
  | p :: r => by
    have ih := valV_map k j y r
    rw [List.map_cons]
    by_cases h : p.1 = k
    · rw [if_pos h]
      by_cases e : p.1 = j
      · rw [valV_pos (p := (p.1, y)) e, valV_pos e, Option.map_some, if_pos (e.symm.trans h)]
      · rw [valV_neg (p := (p.1, y)) e, valV_neg e, ih]
    · rw [if_neg h]
      by_cases e : p.1 = j
      · rw [valV_pos (p := p) e, valV_pos e, Option.map_some, if_neg (fun z => h (e.trans z))]
      · rw [valV_neg (p := p) e, valV_neg e, ih]
theorem valV_snoc (k j : κ) (y : V) : ∀ kvs : List (κ × V), valV kvs k = none → valV (kvs ++ [(k, y)]) j = if j = k then some y else valV kvs j
  | [], _ => by
    by_cases e : k = j
    · rw [if_pos e.symm]; exact valV_pos (p := (k, y)) e
    · rw [if_neg (fun z => e z.symm)]; exact valV_neg (p := (k, y)) e
  | p :: r, hn => by
    rw [List.cons_append]
    have hk : ¬ p.1 = k := fun z => by rw [valV_pos z] at hn; cases hn
    rw [valV_neg hk] at hn
    have ih := valV_snoc k j y r hn
    by_cases e : p.1 = j
    · rw [valV_pos e, valV_pos e, if_neg (fun z => hk (e.trans z))]
    · rw [valV_neg e, valV_neg e, ih]
theorem valV_put (kvs : List (κ × V)) (k j : κ) (y : V) : valV (putK kvs k y) j = if j = k then some y else valV kvs j := by
  unfold putK
  by_cases a : (kvs.any fun kv => decide (kv.1 = k)) = true
  · rw [if_pos a, valV_map]
    rw [valV_any] at a
    by_cases e : j = k
    · obtain ⟨x, hx⟩ := Option.isSome_iff_exists.mp a
      rw [if_pos e, e, hx, Option.map_some, if_pos rfl]
    · rw [if_neg e]
      cases valV kvs j with
      | none => rfl
      | some x => rw [Option.map_some, if_neg e]
  · rw [if_neg a]
    refine valV_snoc k j y kvs ?_
    rw [valV_any] at a
    cases q : valV kvs k with
    | none => rfl
    | some x => rw [q] at a; exact (a rfl).elim
theorem length_putK (kvs : List (κ × V)) (k : κ) (v : V) : (putK kvs k v).length ≤ kvs.length + 1 := by
  unfold putK
  split
  · rw [List.length_map]; omega
  · rw [List.length_append, List.length_cons, List.length_nil]; omega
theorem putK_new {kvs : List (κ × V)} {k : κ} (v : V) (h : valV kvs k = none) : putK kvs k v = kvs ++ [(k, v)] := by
  unfold putK
  rw [valV_any, h]
  exact if_neg (by decide)

theorem RelO.isSome_eq {o : Option V} {u : Option Value} (r : RelO o u) : o.isSome = u.isSome := by
  cases o with
  | none => cases u with
    | none => rfl
    | some _ => exact (show False from r).elim
  | some _ => cases u with
    | none => exact (show False from r).elim
    | some _ => rfl
theorem RelO.getD {o : Option V} {u : Option Value} {d : V} {d' : Value} (r : RelO o u) (rd : RelV d d') : RelV (o.getD d) (u.getD d') := by
  cases o with
  | none => cases u with
    | none => exact rd
    | some _ => exact (show False from r).elim
  | some _ => cases u with
    | none => exact (show False from r).elim
    | some _ => exact r

/-- raw tables of the same keys -/
theorem KV.val {kvs : List (κ × V)} {vs : List (κ × Value)} (r : KV kvs vs) (k : κ) : RelO (valV kvs k) (valueAt vs k) := by
  unfold KV at r
  induction r with
  | nil => exact True.intro
  | @cons p q ps qs h t ih =>
    obtain ⟨h1, h2⟩ := h
    by_cases e : p.1 = k
    · have e' : q.1 = k := h1.symm.trans e
      have b : valueAt (q :: qs) k = some q.2 := by simp [valueAt, List.find?_cons, e']
      rw [valV_pos e, b]; exact h2
    · have e' : ¬ q.1 = k := fun z => e (h1.trans z)
      have b : valueAt (q :: qs) k = valueAt qs k := by simp [valueAt, List.find?_cons, e']
      rw [valV_neg e, b]; exact ih
theorem KV.any {kvs : List (κ × V)} {vs : List (κ × Value)} (r : KV kvs vs) (k : κ) : (kvs.any fun kv => decide (kv.1 = k)) = vs.any fun kv => decide (kv.1 = k) := by
  unfold KV at r
  induction r with
  | nil => rfl
  | cons h t ih => rw [List.any_cons, List.any_cons, ih, h.1]
theorem KV.repl {kvs : List (κ × V)} {vs : List (κ × Value)} (r : KV kvs vs) (k : κ) {y : V} {u : Value} (ry : RelV y u) :
    KV (kvs.map fun kv => if kv.1 = k then (kv.1, y) else kv) (vs.map fun kv => if kv.1 = k then (kv.1, u) else kv) := by
  unfold KV at r ⊢
  induction r with
  | nil => exact .nil
  | @cons p q ps qs h t ih =>
    rw [List.map_cons, List.map_cons]
    refine .cons ?_ ih
    obtain ⟨h1, h2⟩ := h
    by_cases e : p.1 = k
    · rw [if_pos e, if_pos (h1.symm.trans e)]; exact ⟨h1, ry⟩
    · rw [if_neg e, if_neg (fun z => e (h1.trans z))]; exact ⟨h1, h2⟩
theorem KV.put {kvs : List (κ × V)} {vs : List (κ × Value)} (r : KV kvs vs) (k : κ) {y : V} {u : Value} (ry : RelV y u) : KV (putK kvs k y) (stored vs k u) := by
  unfold putK stored
  rw [r.any k]
  by_cases e : (vs.any fun kv => decide (kv.1 = k)) = true
  · rw [if_pos e, if_pos e]; exact r.repl k ry
  · rw [if_neg e, if_neg e]; exact Paired.snoc r ⟨rfl, ry⟩
theorem KV.length {kvs : List (κ × V)} {vs : List (κ × Value)} (r : KV kvs vs) : kvs.length = vs.length := Paired.length r
end


/-! ### a tracked dict, its keys ints and texts or tuples of these -/
theorem kV_is {P : Program} {w : World} {k : Key} {u : Value} (r : RelV (kV k) u) : (mixKind P w).is k u = true := by
  cases k with
  | inl i => obtain ⟨t, e⟩ := (show ∃ t, u = Value.int i t from r); subst e; exact mixKind_int P w i t
  | inr x => obtain ⟨t, e⟩ := (show ∃ t, u = Value.str x t from r); subst e; exact mixKind_str P w x t
theorem items_are {P : Program} {w : World} : ∀ {ks : List Key} {us : List Value}, Vals (ks.map kV) us → ItemsAre (mixKind P w) ks us
  | [], _, r => by rw [List.map_nil] at r; cases r; exact .nil
  | k :: ks, _, r => by
    rw [List.map_cons] at r
    cases r with
    | cons h t => exact .cons (kV_is h) (items_are t)

/-- raw entries of a dict with tuple keys -/
abbrev KT (H : Hp) : List (List Key × V) → List (List Key × Addr × Value) → Prop := Paired fun p q => p.1 = q.1 ∧ H q.2.1 = some (.tup (p.1.map kV)) ∧ RelV p.2 q.2.2
theorem KT.val {H : Hp} {kvs : List (List Key × V)} {xs : List (List Key × Addr × Value)} (r : KT H kvs xs) (k : List Key) : RelO (valV kvs k) ((atKey xs k).map (·.2)) := by
  induction r with
  | nil => exact True.intro
  | @cons p q ps qs h t ih =>
    obtain ⟨h1, _, h2⟩ := h
    by_cases e : p.1 = k
    · have e' : q.1 = k := h1.symm.trans e
      have b : atKey (q :: qs) k = some q.2 := by simp [atKey, List.find?_cons, e']
      rw [valV_pos e, b]; exact h2
    · have e' : ¬ q.1 = k := fun z => e (h1.trans z)
      have b : atKey (q :: qs) k = atKey qs k := by simp [atKey, List.find?_cons, e']
      rw [valV_neg e, b]; exact ih
theorem KT.repl {H : Hp} {kvs : List (List Key × V)} {xs : List (List Key × Addr × Value)} (r : KT H kvs xs) (k : List Key) {y : V} {u : Value} (ry : RelV y u) :
    KT H (kvs.map fun kv => if kv.1 = k then (kv.1, y) else kv) (xs.map (putAt k u)) := by
  induction r with
  | nil => exact .nil
  | @cons p q ps qs h t ih =>
    rw [List.map_cons, List.map_cons]
    refine .cons ?_ ih
    obtain ⟨h1, h2, h3⟩ := h
    unfold putAt
    by_cases e : p.1 = k
    · rw [if_pos e, if_pos (h1.symm.trans e)]; exact ⟨h1, h2, ry⟩
    · rw [if_neg e, if_neg (fun z => e (h1.trans z))]; exact ⟨h1, h2, h3⟩
theorem KT.put {H : Hp} {kvs : List (List Key × V)} {xs : List (List Key × Addr × Value)} (r : KT H kvs xs) (k : List Key) {b : Addr} {y : V} {u : Value} (hb : H b = some (.tup (k.map kV))) (ry : RelV y u) :
    KT H (putK kvs k y) (storedH xs k b u) := by
  have e : (kvs.any fun kv => decide (kv.1 = k)) = (atKey xs k).isSome := by
    rw [valV_any, (r.val k).isSome_eq, Option.isSome_map]
  unfold putK storedH
  rw [e]
  by_cases q : (atKey xs k).isSome = true
  · rw [if_pos q, if_pos q]; exact r.repl k ry
  · rw [if_neg q, if_neg q]; exact Paired.snoc r ⟨rfl, hb, ry⟩
theorem KT.keeps {H H' : Hp} {kvs : List (List Key × V)} {xs : List (List Key × Addr × Value)} (r : KT H kvs xs) (ht : ∀ b ys, H b = some (.tup ys) → H' b = some (.tup ys)) : KT H' kvs xs :=
  Paired.mapP r fun _ _ z => ⟨z.1, ht _ _ z.2.1, z.2.2⟩

section
variable {P : Program} {w : World} {H : Hp} {h : Heap} {a : Addr}
theorem rd_of {u : HO} (ok : HOk P w H h) (e : Rd H a u) : ObjOk P w H h a u := e.ok ok
theorem dk_rd {kvs : List (Key × V)} (ok : HOk P w H h) (e : Rd H a (.dK kvs)) : kvs.length ≤ sizeLine ∧ (a == sysModules) = false ∧ ∃ vs, KV kvs vs ∧ h.DictOf (mixKind P w) a vs :=
  show ObjOk P w H h a (.dK kvs) from rd_of ok e
theorem dk_of {kvs : List (Key × V)} (ok : HOk P w H h) (e : H a = some (.dK kvs)) : kvs.length ≤ sizeLine ∧ (a == sysModules) = false ∧ ∃ vs, KV kvs vs ∧ h.DictOf (mixKind P w) a vs := dk_rd ok (.inl e)
/-- a tracked tuple of ints and texts is a key -/
theorem key_of {ks : List Key} (ok : HOk P w H h) (e : H a = some (.tup (ks.map kV))) : (tupleKind (mixKind P w)).is h ks a := by
  obtain ⟨_, its, r, o, h1, h2, n, h3⟩ := (show ObjOk P w H h a (.tup (ks.map kV)) from ok a _ e)
  exact ⟨o, its.toArray, n, h1, h2, h3, by simpa using items_are r⟩
theorem dt_rd {kvs : List (List Key × V)} (ok : HOk P w H h) (e : Rd H a (.dT kvs)) : kvs.length ≤ sizeLine ∧ (a == sysModules) = false ∧
    ∃ xs, KT H kvs xs ∧ h.DictOfH (tupleKind (mixKind P w)) a xs := by
  obtain ⟨z, y, xs, r, o, es, ep, h1, h2, h3, h4, h5⟩ := (show ObjOk P w H h a (.dT kvs) from rd_of ok e)
  refine ⟨z, y, xs, r, o, es, ep, h1, h2, h3, h4, fun x hx => ?_, h5⟩
  have all : ∀ {l : List (List Key × V)} {m : List (List Key × Addr × Value)}, KT H l m → ∀ x ∈ m, (tupleKind (mixKind P w)).is h x.1 x.2.1 := by
    intro l m q
    induction q with
    | nil => intro x hx; exact nomatch hx
    | @cons p q ps qs hq t ih =>
      intro x hx
      rcases List.mem_cons.mp hx with e | hx
      · subst e
        exact key_of ok (by rw [← hq.1]; exact hq.2.1)
      · exact ih x hx
  exact all r x hx
theorem dt_of {kvs : List (List Key × V)} (ok : HOk P w H h) (e : H a = some (.dT kvs)) : kvs.length ≤ sizeLine ∧ (a == sysModules) = false ∧
    ∃ xs, KT H kvs xs ∧ h.DictOfH (tupleKind (mixKind P w)) a xs := dt_rd ok (.inl e)
end

/-- what the dict at a holds at the key y -/
def DGet (H : Hp) (a : Addr) (y : V) (r : Option V) : Prop :=
  (∃ kvs k, Rd H a (.dK kvs) ∧ y = kV k ∧ r = valV kvs k) ∨ ∃ kvs k b, Rd H a (.dT kvs) ∧ y = .ref b ∧ H b = some (.tup (k.map kV)) ∧ r = valV kvs k
/-- the heap behind a[y] = v -/
def DPut (H : Hp) (a : Addr) (y v : V) (H' : Hp) : Prop :=
  (∃ kvs k, H a = some (.dK kvs) ∧ y = kV k ∧ kvs.length < sizeLine ∧ H' = upd H a (.dK (putK kvs k v))) ∨
  ∃ kvs k b, H a = some (.dT kvs) ∧ y = .ref b ∧ H b = some (.tup (k.map kV)) ∧ kvs.length < sizeLine ∧ H' = upd H a (.dT (putK kvs k v))
theorem DGet.t {H : Hp} {a b : Addr} {kvs : List (List Key × V)} {k : List Key} (e : H a = some (.dT kvs)) (eb : H b = some (.tup (k.map kV))) : DGet H a (.ref b) (valV kvs k) := .inr ⟨kvs, k, b, .inl e, rfl, eb, rfl⟩
theorem DPut.t {H : Hp} {a b : Addr} {kvs : List (List Key × V)} {k : List Key} {v : V} (e : H a = some (.dT kvs)) (eb : H b = some (.tup (k.map kV))) (hl : kvs.length < sizeLine) :
    DPut H a (.ref b) v (upd H a (.dT (putK kvs k v))) := .inr ⟨kvs, k, b, e, rfl, eb, hl, rfl⟩


section
variable {X : Cx} {pins : List (Addr × Obj)} {σ : St} {H : Hp} {s : Shared} {a : Addr} {y v : V} {u r : Value} {o : Option V} {A : Around} {E : Value → Shared → Prop}

theorem Inv.big (I : Inv X pins σ H s) : sysModules < s.heap.objs.size := by
  have h : mainGlobals < s.heap.objs.size := (I.mod.glob.keeps I.bk).lt
  exact Nat.lt_trans (by decide) h

/-- d[y], there -/
theorem d_getItem {Q : Value → Shared → Prop} (hu : A.units + 1 < cLine) (I : Inv X pins σ H s) (g : DGet H a y (some v)) (ry : RelV y u) (h : ∀ w' s', Inv X pins σ H s' → RelV v w' → Q w' s') :
    wpAny (model X.prog X.w) A (getItem (.ref a) u) Q E s := by
  rcases g with ⟨kvs, k, e, ey, l⟩ | ⟨kvs, k, b, e, ey, eb, l⟩
  · subst ey
    obtain ⟨z, hd, vs, rel, dd⟩ := dk_rd I.hok e
    obtain ⟨w', hw, rw'⟩ := RelO.some_of (v := v) (o := valueAt vs k) (by rw [l]; exact rel.val k)
    exact wpAny_getItem_of (kV_is ry) dd.mapOf hw (h w' _ (I.tok _) rw')
  · subst ey
    cases (show u = Value.ref b from ry)
    obtain ⟨z, hd, xs, rel, dd⟩ := dt_rd I.hok e
    obtain ⟨w', hw, rw'⟩ := RelO.some_of (v := v) (o := (atKey xs k).map (·.2)) (by rw [l]; exact rel.val k)
    obtain ⟨p, hp, hp2⟩ := Option.map_eq_some_iff.mp hw
    refine wpAny_getItem_heap (tupleKind_room_in1 hu) (key_of I.hok eb) dd hp ?_
    rw [hp2]
    exact h w' _ (I.tok _) rw'
/-- y in d -/
theorem d_in {Q : Value → Shared → Prop} (hu : A.units + 1 < cLine) (I : Inv X pins σ H s) (g : DGet H a y o) (ry : RelV y u) (h : ∀ s', Inv X pins σ H s' → Q (.bool o.isSome) s') :
    wpAny (model X.prog X.w) A (compareOp .In u (.ref a)) Q E s := by
  rcases g with ⟨kvs, k, e, ey, l⟩ | ⟨kvs, k, b, e, ey, eb, l⟩
  · subst ey
    obtain ⟨z, hd, vs, rel, dd⟩ := dk_rd I.hok e
    refine wpAny_in_of (kV_is ry) hd dd.mapOf ?_
    rw [← (rel.val k).isSome_eq, ← l]
    exact h _ (I.tok _)
  · subst ey
    cases (show u = Value.ref b from ry)
    obtain ⟨z, hd, xs, rel, dd⟩ := dt_rd I.hok e
    refine wpAny_in_heap (tupleKind_room_in1 hu) (key_of I.hok eb) hd dd ?_
    have q := (rel.val k).isSome_eq
    rw [Option.isSome_map] at q
    rw [← q, ← l]
    exact h _ (I.tok _)
theorem d_notIn {Q : Value → Shared → Prop} (hu : A.units + 1 < cLine) (I : Inv X pins σ H s) (g : DGet H a y o) (ry : RelV y u) (h : ∀ s', Inv X pins σ H s' → Q (.bool (!o.isSome)) s') :
    wpAny (model X.prog X.w) A (compareOp .NotIn u (.ref a)) Q E s := by
  rcases g with ⟨kvs, k, e, ey, l⟩ | ⟨kvs, k, b, e, ey, eb, l⟩
  · subst ey
    obtain ⟨z, hd, vs, rel, dd⟩ := dk_rd I.hok e
    refine wpAny_notIn_of (kV_is ry) hd dd.mapOf ?_
    rw [← (rel.val k).isSome_eq, ← l]
    exact h _ (I.tok _)
  · subst ey
    cases (show u = Value.ref b from ry)
    obtain ⟨z, hd, xs, rel, dd⟩ := dt_rd I.hok e
    refine wpAny_notIn_heap (tupleKind_room_in1 hu) (key_of I.hok eb) hd dd ?_
    have q := (rel.val k).isSome_eq
    rw [Option.isSome_map] at q
    rw [← q, ← l]
    exact h _ (I.tok _)
/-- a dict's object is replaced -/
theorem d_write {h' : Heap} {t' : Nat} {ob : HO} (I : Inv X pins σ H s) (mu : Mut (H a)) (hs : Heap.SameBut a s.heap h') (he : ∃ q, h'.get? a = some q) (new : ObjOk X.prog X.w (upd H a ob) h' a ob) :
    Inv X pins σ (upd H a ob) { s with heap := h', toks := t' } :=
  I.write (x := a) (e := a) mu (.inl rfl) (fun b q hb z => (hs.2 b hb).trans z) he new
theorem dk_new {P : Program} {w : World} {H' : Hp} {h' : Heap} {kvs : List (Key × V)} {vs : List (Key × Value)} (z : kvs.length ≤ sizeLine) (hd : (a == sysModules) = false) (rel : KV kvs vs) (dd : h'.DictOf (mixKind P w) a vs) :
    ObjOk P w H' h' a (.dK kvs) := ⟨z, hd, vs, rel, dd⟩
/-- d[y] = v -/
theorem d_setItem {H' : Hp} {Q : Unit → Shared → Prop} (hu : A.units + 1 < cLine) (I : Inv X pins σ H s) (g : DPut H a y v H') (ry : RelV y u) (rv : RelV v r) (h : ∀ s', Inv X pins σ H' s' → Q () s') :
    wpAny (model X.prog X.w) A (setItem (.ref a) u r) Q E s := by
  rcases g with ⟨kvs, k, e, ey, l, eH⟩ | ⟨kvs, k, b, e, ey, eb, l, eH⟩
  · subst ey eH
    obtain ⟨z, hd, vs, rel, dd⟩ := dk_of I.hok e
    have hz : vs.length ≤ sizeLine := by rw [← rel.length]; exact z
    have hl : (putK kvs k v).length ≤ sizeLine := by have := length_putK kvs k v; omega
    refine wpAny_setItem_pairs (hsz := hz) (kV_is ry) dd fun h' dd' hs => h _ ?_
    have he : ∃ q, h'.get? a = some q := let ⟨q, _, _, hq, _⟩ := dd'; ⟨q, hq⟩
    exact d_write I (by rw [e]; exact True.intro) hs he (dk_new hl hd (rel.put k rv) dd')
  · subst ey eH
    cases (show u = Value.ref b from ry)
    obtain ⟨z, hd, xs, rel, dd⟩ := dt_of I.hok e
    have hz : xs.length ≤ sizeLine := by rw [← Paired.length rel]; exact z
    have hl : (putK kvs k v).length ≤ sizeLine := by have := length_putK kvs k v; omega
    refine wpAny_setItem_heap (hsz := hz) (tupleKind_room_in1 hu) (key_of I.hok eb) dd fun h' dd' hs => h _ ?_
    obtain ⟨q, es, ep, hq, h2, h3, h4, _, h5⟩ := dd'
    refine d_write I (by rw [e]; exact True.intro) hs ⟨q, hq⟩ ⟨hl, hd, _, (rel.put k eb rv).keeps fun c ys ec => ?_, q, es, ep, hq, h2, h3, h4, h5⟩
    rw [upd_ne (ne_of ec e (fun z => nomatch z))]
    exact ec
end

section
variable {X : Cx} {pins : List (Addr × Obj)} {σ : St} {H : Hp} {s : Shared} {a : Addr} {kvs : List (Key × V)} {k : Key} {u : Value} {A : Around} {E : Value → Shared → Prop}
end


/-! ### readings and rules -/
/-- the element of a subscription, not a slice -/
def NoSl (i : Expr) : Prop := ∀ ov iv, subscripted i false ov iv = operate [ov, iv] (getItem ov iv)
theorem subD_of {prog : Program} {w : World} {A : Around} {E : Value → Shared → Prop} {s : Shared} {env : Env} {value slice : Expr} {pos : Pos} {T id : String} {Q : Value → Shared → Prop}
    (hl : typeLookup (.type T) "__getitem__" = pure (some (.builtin id))) (hs : NoSl slice)
    (h : wpAny (model prog w) A (eval value env) (fun o s₁ => wpAny (model prog w) A (eval slice env) (fun i s₂ => s₂.TypeIs o T ∧ wpAny (model prog w) A (getItem o i) Q E s₂) E s₁) E s) :
    wpAny (model prog w) A (eval (.Subscript value slice pos) env) Q E s := by
  refine Subscript_ (wpAny_mono h (fun o s₁ h₁ => wpAny_mono h₁ (fun i s₂ h₂ => ?_) fun _ _ x => x) fun _ _ x => x)
  obtain ⟨hT, h₂⟩ := h₂
  unfold subscriptTail
  refine wpAny_bind ?_
  rw [getitemInPython_of_ne hT.not_modules]
  refine wpAny_bind (wpAny_specialOf hT hl ?_)
  have fin : wpAny (model prog w) A (subscripted slice false o i) (fun r s₃ => wpAny (model prog w) A (letTemporaryGo value o r >>= fun _ => pure r) Q E s₃) E s₂ := by
    rw [hs o i]
    exact wpAny_operating (wpAny_mono h₂ (fun r s₃ h₃ => wpAny_bind (wpAny_letTemporaryGo (wpAny_pure h₃))) fun _ _ x => x)
  first
    | exact wpAny_pure (wpAny_bind fin)
    | exact wpAny_bind (wpAny_pure (wpAny_bind fin))
    | exact wpAny_bind fin

theorem dict_typeIs {X : Cx} {pins : List (Addr × Obj)} {σ : St} {H : Hp} {s : Shared} {a : Addr} {y : V} {o : Option V} (I : Inv X pins σ H s) (g : DGet H a y o) : s.TypeIs (.ref a) "dict" := by
  rcases g with ⟨kvs, k, e, _, _⟩ | ⟨kvs, k, b, e, _, _, _⟩
  · obtain ⟨_, _, vs, _, dd⟩ := dk_rd I.hok e
    exact dd.typeIs
  · obtain ⟨_, _, xs, _, dd⟩ := dt_rd I.hok e
    exact dd.typeIs

/-- d[y] -/
def tDGet (td ty : TE) : TE := fun σ H Q => td σ H fun x H1 => ty σ H1 fun y H2 => ∃ a v, x = .ref a ∧ DGet H2 a y (some v) ∧ Q v H2
/-- y in d, y not in d -/
def tDIn (ty td : TE) : TE := fun σ H Q => ty σ H fun y H1 => td σ H1 fun x H2 => ∃ a o, x = .ref a ∧ DGet H2 a y o ∧ Q (.bl o.isSome) H2
def tDNotIn (ty td : TE) : TE := fun σ H Q => ty σ H fun y H1 => td σ H1 fun x H2 => ∃ a o, x = .ref a ∧ DGet H2 a y o ∧ Q (.bl (!o.isSome)) H2
/-- d[y] = v -/
def sDPut (td ty tv : TE) : TS := fun D σ H => tv σ H fun v H1 => td σ H1 fun x H2 => ty σ H2 fun y H3 => ∃ a H4, x = .ref a ∧ DPut H3 a y v H4 ∧ D.nx σ H4

section
variable {X : Cx} {o i e value : Expr} {pos pos' tpos : Pos} {td ty tv : TE}
theorem pe_dget (hu : X.A.units + 1 < cLine) (ho : PE X o td) (hi : PE X i ty) (hs : NoSl i) : PE X (.Subscript o i pos) (tDGet td ty) := by
  intro pins s σ H Q I h
  refine subD_of PySem.F.slot_dict_getitem.lookup hs (thn (ho pins s σ H _ I h) fun u s1 ⟨x, H1, I1, rx, q1⟩ => thn (hi pins s1 σ H1 _ I1 q1) fun iv s2 ⟨y, H2, I2, ry, a, v, ex, g, q2⟩ => ?_)
  subst ex
  obtain rfl : u = Value.ref a := rx
  exact ⟨dict_typeIs I2 g, d_getItem hu I2 g ry fun w' s3 I3 rw' => ⟨v, H2, I3, rw', q2⟩⟩
theorem pc_din (hu : X.A.units + 1 < cLine) (hi : PE X i ty) (ho : PE X o td) : PC X .In i o (tDIn ty td) := by
  intro pins s σ H Q I h
  refine thn (hi pins s σ H _ I h) fun iv s1 ⟨y, H1, I1, ry, q1⟩ => thn (ho pins s1 σ H1 _ I1 q1) fun u s2 ⟨x, H2, I2, rx, a, ov, ex, g, q2⟩ => ?_
  subst ex
  obtain rfl : u = Value.ref a := rx
  exact d_in hu I2 g ry fun s3 I3 => ⟨.bl ov.isSome, H2, I3, rfl, q2⟩
theorem pc_dnotin (hu : X.A.units + 1 < cLine) (hi : PE X i ty) (ho : PE X o td) : PC X .NotIn i o (tDNotIn ty td) := by
  intro pins s σ H Q I h
  refine thn (hi pins s σ H _ I h) fun iv s1 ⟨y, H1, I1, ry, q1⟩ => thn (ho pins s1 σ H1 _ I1 q1) fun u s2 ⟨x, H2, I2, rx, a, ov, ex, g, q2⟩ => ?_
  subst ex
  obtain rfl : u = Value.ref a := rx
  exact d_notIn hu I2 g ry fun s3 I3 => ⟨.bl (!ov.isSome), H2, I3, rfl, q2⟩
theorem ps_dput (hu : X.A.units + 1 < cLine) (ho : PE X o td) (hi : PE X i ty) (hv : PE X value tv) (hs : swapsWith value (some (.Subscript o i pos')) pos.line X.env = pure false) :
    PS X (.Assign [.Subscript o i pos'] value pos) (sDPut td ty tv) := by
  intro pins s σ H D I h
  refine wpAny_Assign_Subscript (thn (hv pins s σ H _ I h) fun r s1 ⟨v, H1, I1, rv, q1⟩ => thn (ho pins s1 σ H1 _ I1 q1) fun u s2 ⟨x, H2, I2, rx, q2⟩ => thn (hi pins s2 σ H2 _ I2 q2) fun iv s3 ⟨y, H3, I3, ry, a, H4, ex, g, q3⟩ => ?_) hs
  subst ex
  obtain rfl : u = Value.ref a := rx
  exact d_setItem hu I3 g ry rv fun s4 I4 => ⟨σ, H4, I4, q3⟩
end


/-! ### displays -/
theorem dt_empty {P : Program} {w : World} {H : Hp} (h : Heap) (hb : sysModules < h.objs.size) : ObjOk P w H (h.push { cls := .type "dict", data := .dict #[] }) h.objs.size (.dT []) :=
  ⟨Nat.zero_le _, beq_eq_false_iff_ne.mpr (Ne.symm (Nat.ne_of_lt hb)), [], .nil, _, #[], 0, Heap.get?_push_size _ rfl, ⟨rfl, rfl, rfl⟩, rfl, rfl, List.nodup_nil⟩
def tDNewT : TE := fun _ H Q => ∀ p, H p = none → Q (.ref p) (upd H p (.dT []))
section
variable {X : Cx} {pos : Pos}
theorem pe_dnewT : PE X (.Dict [] [] pos) tDNewT := fun pins s σ H Q I h =>
  wpAny_Dict_empty ⟨.ref s.heap.objs.size, _, I.laid (a := s.heap.objs.size) (o := .dT []) (t' := s.toks) (fun _ _ q => Heap.get?_push_of_some _ q) (Nat.le_refl _) (dt_empty s.heap I.big), rfl, h _ (I.hok.fresh (Nat.le_refl _))⟩
end




/-! ### methods -/
/-- a method call o.m(e) of a built-in, with one argument: what must be seen of the text -/
structure M1 (X : Cx) (o : Expr) (m : Str) (apos : Pos) (e : Expr) (cpos : Pos) : Prop where
  base : attributeBase o m X.env (eval o X.env) = eval o X.env
  few : ((backTo cpos (starEach [e] X.env)).all (fun x => !x.1) && (backToKw cpos (keywordEach [] X.env)).all (fun x => x.1.isSome)
    && decide (([e] : List Expr).length + ([] : List Keyword).length + (if ([] : List Keyword).isEmpty then 0 else 1) < 30)) = true
  line : (apos.endLine == cpos.line) = true
  trees : backTo cpos (starEach [e] X.env) = [(false, eval e X.env)]
structure M2 (X : Cx) (o : Expr) (m : Str) (apos : Pos) (e f : Expr) (cpos : Pos) : Prop where
  base : attributeBase o m X.env (eval o X.env) = eval o X.env
  few : ((backTo cpos (starEach [e, f] X.env)).all (fun x => !x.1) && (backToKw cpos (keywordEach [] X.env)).all (fun x => x.1.isSome)
    && decide (([e, f] : List Expr).length + ([] : List Keyword).length + (if ([] : List Keyword).isEmpty then 0 else 1) < 30)) = true
  line : (apos.endLine == cpos.line) = true
  trees : backTo cpos (starEach [e, f] X.env) = [(false, eval e X.env), (false, eval f X.env)]

/-- a is a dict, whatever its keys -/
def IsD (H : Hp) (a : Addr) : Prop := (∃ kvs, Rd H a (.dK kvs)) ∨ ∃ kvs, Rd H a (.dT kvs)
theorem isD_at {X : Cx} {pins : List (Addr × Obj)} {σ : St} {H : Hp} {s : Shared} {a : Addr} (I : Inv X pins σ H s) (d : IsD H a) :
    s.TypeIs (.ref a) "dict" ∧ (∀ b, Value.ref a = .ref b → ∃ ob, s.heap.get? b = some ob ∧ ob.dict = none) ∧ (a == sysModules) = false := by
  rcases d with ⟨kvs, e⟩ | ⟨kvs, e⟩
  · obtain ⟨_, hd, vs, _, dd⟩ := dk_rd I.hok e
    refine ⟨dd.typeIs, fun b q => ?_, hd⟩
    cases q
    obtain ⟨ob, _, _, h1, h2, _⟩ := dd
    exact ⟨ob, h1, h2.2.1⟩
  · obtain ⟨_, hd, xs, _, dd⟩ := dt_rd I.hok e
    refine ⟨dd.typeIs, fun b q => ?_, hd⟩
    cases q
    obtain ⟨ob, _, _, h1, h2, _⟩ := dd
    exact ⟨ob, h1, h2.2.1⟩

section
variable {X : Cx} {pins : List (Addr × Obj)} {σ : St} {H : Hp} {s : Shared} {a : Addr} {y d : V} {u r : Value} {o : Option V} {A : Around} {E : Value → Shared → Prop}
/-- d.get(y, x) -/
theorem d_get2 {Q : Value → Shared → Prop} (hu : A.units + 1 < cLine) (I : Inv X pins σ H s) (g : DGet H a y o) (ry : RelV y u) (rd : RelV d r) (h : ∀ w' s', Inv X pins σ H s' → RelV (o.getD d) w' → Q w' s') :
    wpAny (model X.prog X.w) A (call (.builtin "dict.get") [.ref a, u, r]) Q E s := by
  rcases g with ⟨kvs, k, e, ey, l⟩ | ⟨kvs, k, b, e, ey, eb, l⟩
  · subst ey
    obtain ⟨z, hd, vs, rel, dd⟩ := dk_rd I.hok e
    refine call_meetsIn PySem.F.slot_dict_get dd.typeIs PySem.F.entry_dict_get (PySem.F.args_dict_get_3 _ _ _) (meets_dict_get_default (mixKind X.prog X.w) a (kV_is ry) hd r) ⟨_, dd.mapOf, h _ _ (I.tok _) ?_⟩
    rw [l]
    exact (rel.val k).getD rd
  · subst ey
    cases (show u = Value.ref b from ry)
    obtain ⟨z, hd, xs, rel, dd⟩ := dt_rd I.hok e
    refine call_meetsIn PySem.F.slot_dict_get dd.typeIs PySem.F.entry_dict_get (PySem.F.args_dict_get_3 _ _ _) (meetsH_dict_get_default (tupleKind (mixKind X.prog X.w)) a b hd r) ⟨tupleKind_room_in1 hu, k, xs, key_of I.hok eb, dd, h _ _ (I.tok _) ?_⟩
    rw [l]
    exact (rel.val k).getD rd
end

def tDGet2 (td ty tx : TE) : TE := fun σ H Q => td σ H fun x H1 => ∃ a, x = .ref a ∧ IsD H1 a ∧ ty σ H1 fun y H2 => tx σ H2 fun z H3 => ∃ o, DGet H3 a y o ∧ Q (o.getD z) H3
section
variable {X : Cx} {o e f : Expr} {apos cpos : Pos} {td ty tx : TE}
theorem pe_dget2 (hu : X.A.units + 1 < cLine) (ho : PE X o td) (he : PE X e ty) (hf : PE X f tx) (m : M2 X o "get" apos e f cpos) : PE X (.Call (.Attribute o "get" apos) [e, f] [] cpos) (tDGet2 td ty tx) := by
  intro pins s σ H Q I h
  refine wpAny_Call_method m.base m.few m.line PySem.F.plainAttrs_dict PySem.F.slot_dict_get PySem.F.type_dict_get (thn (ho pins s σ H _ I h) fun u s1 ⟨x, H1, I1, rx, a, ex, d, q1⟩ => ?_)
  subst ex
  obtain rfl : u = Value.ref a := rx
  obtain ⟨t1, t2, _⟩ := isD_at I1 d
  refine ⟨t1, t2, ?_⟩
  rw [m.trees]
  refine Calls.callWith_builtin rfl (Calls.evalArgs_plain (Calls.spliced_cons (thn (he pins s1 σ H1 _ I1 q1) fun iv s2 ⟨y, H2, I2, ry, q2⟩ =>
    Calls.spliced_cons (thn (hf pins s2 σ H2 _ I2 q2) fun fv s3 ⟨z, H3, I3, rz, ov, g, q3⟩ => Calls.spliced_nil ?_))))
  exact d_get2 hu I3 g ry rz fun w' s4 I4 rw' => ⟨_, H3, I4, rw', q3⟩
end

/-! ### dict(d): a copy -/
section
variable {X : Cx} {pins : List (Addr × Obj)} {σ : St} {H : Hp} {s : Shared} {a : Addr} {kvs : List (Key × V)} {A : Around} {E : Value → Shared → Prop}
end


section
variable {X : Cx} {pins : List (Addr × Obj)} {σ : St} {H : Hp} {s : Shared} {a : Addr} {y : V} {u : Value} {A : Around} {E : Value → Shared → Prop}
end
end L2

namespace L2
open PySem PySem.Spec PyProof.Rows


section
variable {prog : Program} {w : World} {A : Around} {E : Value → Shared → Prop}


end

section
variable {X : Cx}
end
end L2

namespace L2
open PySem PySem.Spec PyProof.Rows


section
variable {X : Cx} {pins : List (Addr × Obj)} {σ : St} {H : Hp} {s : Shared} {h' : Heap}
/-- several records of ours have turned -/
theorem Inv.turnedL {t' : Nat} {ch : List Addr} (I : Inv X pins σ H s) (k : ∀ b o, b ∉ ch → s.heap.get? b = some o → h'.get? b = some o) (hf : ∀ b ∈ ch, FpOk X pins H b) : Inv X pins σ H { s with heap := h', toks := t' } := by
  have nit : ∀ b u, H b = some u → b ∉ ch := fun b u e z => by
    have q := (hf b z).1
    rw [q] at e; cases e
  refine I.step (g' := s.gens) (d' := s.drawn) (ch := ch) (fun b hb => ⟨(hf b hb).2.2.2.1, (hf b hb).2.1, (hf b hb).2.2.2.2.1, (hf b hb).2.2.2.2.2⟩) (fun b o _ _ hc e _ => k b o hc e) (fun b o _ _ hc e _ => ⟨o.slots, k b o hc e⟩)
    (fun _ _ _ _ n => n) (fun b o hc e => ⟨o, k b o hc e⟩) (fun _ _ e => e) (fun _ _ _ e => e) (fun b ps e => ⟨#[], by rw [e]; simp⟩) (fun m hm => ?_) (fun b u e => ?_) I.bare
  · obtain ⟨o, es, ep, ho, r⟩ := hm
    exact ⟨o, es, ep, k _ o (fun z => (hf _ z).2.1 rfl) ho, r⟩
  · refine (I.hok b u e).stay (fun c v hc q => k c v ?_ q) (fun _ q => q) fun _ _ q => q
    rcases hc with z | z
    · rw [z]; exact nit b u e
    · exact nit c _ z
/-- .. and one new object is laid -/
theorem Inv.turnedNew {t' : Nat} {ch : List Addr} {T : Addr} {ob : HO} (I : Inv X pins σ H s) (k : ∀ b o, b ∉ ch → s.heap.get? b = some o → h'.get? b = some o) (hf : ∀ b ∈ ch, FpOk X pins H b) (hT : s.heap.objs.size ≤ T)
    (new : ObjOk X.prog X.w (upd H T ob) h' T ob) : Inv X pins σ (upd H T ob) { s with heap := h', toks := t' } := by
  have hn : H T = none := I.hok.fresh hT
  have nit : ∀ b u, H b = some u → b ∉ ch := fun b u e z => by
    have q := (hf b z).1
    rw [q] at e; cases e
  refine I.step (g' := s.gens) (d' := s.drawn) (ch := ch) (fun b hb => ⟨(hf b hb).2.2.2.1, (hf b hb).2.1, (hf b hb).2.2.2.2.1, (hf b hb).2.2.2.2.2⟩) (fun b o _ _ hc e _ => k b o hc e) (fun b o _ _ hc e _ => ⟨o.slots, k b o hc e⟩)
    (fun b o _ e n => ?_) (fun b o hc e => ⟨o, k b o hc e⟩) (fun b xs e => ?_) (fun b o u e => ?_) (fun b ps e => ⟨#[], ?_⟩) (fun m hm => ?_) (fun b u e => ?_) I.bare
  · rw [upd_ne (Nat.ne_of_lt (Nat.lt_of_lt_of_le (Heap.lt_size e) hT))]; exact n
  · rw [upd_ne (ne_of_none e hn)]; exact e
  · rw [upd_ne (ne_of_none e hn)]; exact e
  · rw [upd_ne (ne_of_none e hn), e]; simp
  · obtain ⟨o, es, ep, ho, r⟩ := hm
    exact ⟨o, es, ep, k _ o (fun z => (hf _ z).2.1 rfl) ho, r⟩
  · by_cases hb : b = T
    · subst hb
      rw [upd_same] at e
      cases e
      exact new
    · rw [upd_ne hb] at e
      refine (I.hok b u e).stay (fun c v hc q => k c v ?_ q) (fun c q => by rw [upd_ne (ne_of_none q hn)]; exact q) fun c xs q => by rw [upd_ne (ne_of_none q hn)]; exact q
      rcases hc with z | z
      · rw [z]; exact nit b u e
      · exact nit c _ z

/-! ### locking a thing while a statement runs -/
end
section
variable {X : Cx}

/-! ### one iterator just laid -/
theorem pi_one {tg : Expr} {pins : List (Addr × Obj)} {σ : St} {H : Hp} {s : Shared} {R : It → Hp → Prop} {J : It} {tn : Nat → Heap → Prop} {tk : Nat} (I : Inv X pins σ H s) (o : Obj)
    (T : Turn X.prog X.w X.K tg J [s.heap.objs.size] s.heap.objs.size tn) (st : tn 0 (s.heap.push o)) (q : R J H) : PIE X pins σ tg R (.ref s.heap.objs.size) { s with heap := s.heap.push o, toks := tk } := by
  refine ⟨s.heap.objs.size, [s.heap.objs.size], tn, J, H, rfl, I.kept fun b ob e => Heap.get?_push_of_some _ e, T, st, fun b hb => ?_, q⟩
  have e : b = s.heap.objs.size := by simpa using hb
  subst e
  exact I.fpOk (Nat.le_refl _) (I.hok.fresh (Nat.le_refl _))
end

/-! ### range with a step -/
/-- lo, lo + c, .. (n of them) -/
def Itc (lo c : Int) (n : Nat) : It := ⟨fun i _ => i < n, fun i H x H' => H' = H ∧ x = .int (lo + (i : Nat) * c), fun i _ => n ≤ i⟩
theorem turn_rangeC {P : Program} {w : World} {K : PySem.W.Frag} {tg : Expr} (it : Addr) (lo c : Int) (n : Nat) : Turn P w K tg (Itc lo c n) [it] it (fun i h => IsRangeIter h it (lo + (i : Nat) * c) ((n : Int) - (i : Nat)) c) where
  mem := by simp
  obj := fun i h st b hb => by
    have e : b = it := by simpa using hb
    subst e
    exact ⟨_, st, fun v z => nomatch z⟩
  keep := fun i h h' st k => k it (by simp) _ st
  item := by
    intro X hP hw hK hc i pins s σ H E I hf st hg
    subst hP hw hK
    obtain ⟨f0, f1, f2, f3, f4, f5⟩ := hf it (by simp)
    have W := Walks.range (prog := X.prog) (w := X.w) (I.ok.hd hc) it lo c n
    refine W.item i s _ _ hg st fun v h' tk hv st' kk => ?_
    obtain ⟨t, rfl⟩ := hv
    have I1 : Inv X pins σ H { s with heap := h', toks := tk } := I.turned (fun b o hb e => kk b o (by simpa using hb) e) f0 f1 f3 f4 f5
    exact ⟨_, rfl, go_of (s := { s with heap := h', toks := tk }) (n := "range_iterator") st' rfl rfl (by decide) ⟨.int (lo + (i : Nat) * c), H, I1, ⟨t, rfl⟩, ⟨rfl, rfl⟩, st', fun b hb => (hf b hb).1⟩⟩
  done := by
    intro X hP hw hK hc i pins s σ H E I hf st hg
    subst hP hw hK
    obtain ⟨f0, f1, f2, f3, f4, f5⟩ := hf it (by simp)
    exact wpAny_pyNext_range_end (I.ok.hd hc) st (by have : n ≤ i := hg; omega) fun h' eb => ⟨rfl, I.turned (t' := s.toks) (fun b o hb e => eb b o hb e) f0 f1 f3 f4 f5⟩
  self := fun A i s Q E st h => wpAny_pyIter_rangeiter st h
/-- range(i, j, c): small bounds, n items -/
def RgC (i j c : Int) (n : Nat) : Prop := c ≠ 0 ∧ c.natAbs < 1073741824 ∧ Builtin.Range.small i j c = true ∧ Builtin.Range.rangeSize i j c = n
def iRng3 (ta : TA) : TI := fun σ H R => ta σ H fun vs H1 => ∃ (i j c : Int) (n : Nat), vs = [.int i, .int j, .int c] ∧ RgC i j c n ∧ R (Itc i c n) H1
section
variable {X : Cx} {tg : Expr}
theorem pi_range3 {a b c : Expr} {ta : TA} {p pos : Pos} (hg : Gl X "range") (hm : X.mg "range" = none) (ha : PA X [a, b, c] ta)
    (hs : starEach [a, b, c] X.env = (false, eval a X.env) :: starEach [b, c] X.env := by rfl) (hpl : (backTo pos (starEach [b, c] X.env)).any (·.1) = false := by rfl) :
    PI X tg (.Call (.Name "range" p) [a, b, c] [] pos) (iRng3 ta) := by
  intro pins s σ H R I h
  refine Call_ (ld_blt I hg hm boot_range (PyProof.Rows.callWith_type1 (thn (ha pos pins s σ H _ I h) fun us s1 ⟨vs, H1, I1, r1, q1⟩ => ?_) hs hpl))
  obtain ⟨i, j, k, n, e, ⟨c0, c1, c2, c3⟩, q⟩ := q1
  subst e
  cases r1 with
  | cons r rr =>
    cases rr with
    | cons r' rr =>
      cases rr with
      | cons r'' rr =>
        cases rr
        obtain ⟨t, rfl⟩ := r
        obtain ⟨t', rfl⟩ := r'
        obtain ⟨t'', rfl⟩ := r''
        refine call_range_3 c0 ?_ (.inl (PyProof.noPylong_small c1))
        refine wpAny_pyIter_range (IsRange.new ..) c2 ?_
        have I2 : Inv X pins σ H1 { s1 with heap := s1.heap.push { cls := .type "range", data := .fields #[.int i t, .int j t', .int k t''] } } := I1.kept (t' := s1.toks) fun b o e => Heap.get?_push_of_some _ e
        refine pi_one (tk := s1.toks) I2 _ (turn_rangeC _ i k n) ?_ q
        have e1 : i + ((0 : Nat) : Int) * k = i := by simp
        have e2 : (n : Int) - ((0 : Nat) : Int) = Builtin.Range.rangeSize i j k := by rw [c3]; simp
        show IsRangeIter _ _ (i + ((0 : Nat) : Int) * k) ((n : Int) - ((0 : Nat) : Int)) k
        rw [e1, e2]
        exact Heap.get?_push_size _ rfl
end
/-- the turns of a step range, for the for loop -/
theorem for_rangeC {lo c : Int} {n : Nat} {g : TG} {tb : TS} {D : Ends} {σ : St} {H : Hp} (Pv : Nat → St → Hp → Prop) (h0 : Pv 0 σ H)
    (hs : ∀ i σ H, i < n → Pv i σ H → g (.int (lo + (i : Nat) * c)) σ H fun σ2 H2 => tb { D with nx := Pv (i + 1), ct := Pv (i + 1), bk := D.nx } σ2 H2) (hd : ∀ σ H, Pv n σ H → D.nx σ H) :
    ∃ W : Nat → Nat → St → Hp → Prop, (∃ m, W 0 m σ H) ∧ ∀ i m σ H, W i m σ H →
      ((Itc lo c n).stop i H ∧ D.nx σ H) ∨ ((Itc lo c n).go i H ∧ ∃ N : St → Hp → Prop, (∀ σ' H', N σ' H' → ∃ m', m' < m ∧ W (i + 1) m' σ' H') ∧ ∀ x H', (Itc lo c n).yld i H x H' → g x σ H' fun σ2 H2 => tb { D with nx := N, ct := N, bk := D.nx } σ2 H2) := by
  refine ⟨fun i m σ H => m = n - i ∧ i ≤ n ∧ Pv i σ H, ⟨n, by simp, Nat.zero_le _, h0⟩, ?_⟩
  rintro i m σ H ⟨rfl, hi, p⟩
  by_cases hlt : i < n
  · refine .inr ⟨hlt, Pv (i + 1), fun σ' H' p' => ⟨n - (i + 1), by omega, rfl, hlt, p'⟩, fun x H' y => ?_⟩
    obtain ⟨e, y⟩ := y
    subst e y
    exact hs i σ _ hlt p
  · have e : i = n := by omega
    subst e
    exact .inl ⟨Nat.le_refl _, hd σ H p⟩

/-! ### reversed(list) -/
section
variable {X : Cx} {tg : Expr}
end

/-! ### a str -/

/-! ### a dict's keys: any dict's entries -/
section
variable {prog : Program} {w : World} {A : Around} {E : Value → Shared → Prop} {s : Shared}
end

/-! ### a locked dict -/
section
variable {X : Cx} {pins : List (Addr × Obj)} {σ : St} {H : Hp} {s : Shared} {d : Addr} {o : Obj}
end

section
variable {P : Program} {w : World} {K : PySem.W.Frag} {tg : Expr} {d : Addr} {o : Obj} {es : Array DictEntry} {ep : Nat}
end

/-! ### for k in d, d.keys(), d.values(), d.items() -/
section
variable {X : Cx} {tg e : Expr} {td : TE} {apos cpos : Pos}
end

/-! ### enumerate(list) -/
/-- the list at a as it stands at each turn, each item in a new pair -/
def Ite (K : PySem.W.Frag) (a : Addr) : It :=
  ⟨fun i H => ∃ (xs : List V) (x : V), SqL K H a xs ∧ xs[i]? = some x, fun i H v H' => ∃ T x, v = .ref T ∧ H T = none ∧ H' = upd H T (.tup [.int (i : Nat), x]) ∧ ∀ xs, SqL K H a xs → xs[i]? = some x, fun i H => ∃ xs : List V, SqL K H a xs ∧ xs.length ≤ i⟩
theorem turn_enum {P : Program} {w : World} {K : PySem.W.Frag} {elts : List Expr} {kk : Nat} {tpos : Pos} (a e it : Addr) :
    Turn P w K (.Tuple elts kk tpos) (Ite K a) [e, it] e (fun i h => (∃ old, IsEnum h e it ((i : Nat) : Int) old) ∧ h.IsListIter it a i ∧ e ≠ it) where
  mem := by simp
  obj := fun i h st b hb => by
    obtain ⟨⟨old, he⟩, ⟨o, ho, hc, hd⟩, _⟩ := st
    have e' : b = e ∨ b = it := by simpa using hb
    rcases e' with z | z
    · rw [z]; exact ⟨_, he, fun v q => nomatch q⟩
    · rw [z]; exact ⟨o, ho, fun v q => by rw [hd] at q; cases q⟩
  keep := fun i h h' st k => let ⟨⟨old, he⟩, hi, hne⟩ := st; ⟨⟨old, k e (by simp) _ he⟩, hi.at fun o q => k it (by simp) o q, hne⟩
  item := by
    intro X hP hw hK hc i pins s σ H E I hf st hg
    subst hP hw hK
    obtain ⟨⟨old, he⟩, hit, hne⟩ := st
    obtain ⟨xs, x, hq, hx⟩ := hg
    obtain ⟨its, rv, p, hz⟩ := I.list hq
    obtain ⟨u, hu, ru⟩ := rv.get hx
    have hel : e < s.heap.objs.size := Heap.lt_size he
    have hil : it < s.heap.objs.size := by obtain ⟨_, q, _⟩ := hit; exact Heap.lt_size q
    refine wpAny_pyNext_enum_item he hit p.isList (x := u) (by simpa using hu) hne fun h' ho hit' hT hsz hk => ?_
    refine ⟨_, rfl, wpAny_letOwnedTupleGo_enum (s := { s with heap := h', toks := s.toks + 1 }) ho fun h'' he' sb => ?_⟩
    have hT2 : h''.get? s.heap.objs.size = some { cls := .type "tuple", data := .seq #[.int i s.toks, u] } := (sb.2 _ (Nat.ne_of_gt hel)).trans hT
    have new : ObjOk X.prog X.w (upd H s.heap.objs.size (.tup [.int (i : Nat), x])) h'' s.heap.objs.size (.tup [.int (i : Nat), x]) :=
      ⟨by show 2 ≤ sizeLine; decide, [.int i s.toks, u], .cons ⟨_, rfl⟩ (.cons ru .nil), ⟨_, hT2, rfl, _, rfl⟩⟩
    have I1 : Inv X pins σ (upd H s.heap.objs.size (.tup [.int (i : Nat), x])) { s with heap := h'', toks := s.toks + 1 } :=
      I.turnedNew (ch := [e, it]) (fun b ob hb q => (sb.2 b (fun z => hb (by simp [z]))).trans (hk b ob (fun z => hb (by simp [z])) (fun z => hb (by simp [z])) q)) hf (Nat.le_refl _) new
    refine ⟨.ref s.heap.objs.size, _, I1, rfl, ⟨_, x, rfl, I.hok.fresh (Nat.le_refl _), rfl, fun ys hy => by rw [I.list_inj hy hq]; exact hx⟩, ⟨⟨u, ?_⟩, hit'.at fun o q => (sb.2 it (Ne.symm hne)).trans q, hne⟩, fun b hb => ?_⟩
    · have e1 : ((i + 1 : Nat) : Int) = (i : Int) + 1 := by omega
      rw [e1]; exact he'
    · have hb' : b < s.heap.objs.size := by
        have e' : b = e ∨ b = it := by simpa using hb
        rcases e' with z | z
        · rw [z]; exact hel
        · rw [z]; exact hil
      rw [upd_ne (Nat.ne_of_lt hb')]
      exact (hf b hb).1
  done := by
    intro X hP hw hK hc i pins s σ H E I hf st hg
    subst hP hw hK
    obtain ⟨⟨old, he⟩, hit, hne⟩ := st
    obtain ⟨xs, hq, hx⟩ := hg
    obtain ⟨its, rv, p, hz⟩ := I.list hq
    obtain ⟨f0, f1, f2, f3, f4, f5⟩ := hf it (by simp)
    have hl := rv.length
    exact wpAny_pyNext_enum_end (I.ok.hd hc) he hit p.isList (by simp; omega) fun h' eb => ⟨rfl, I.turned (t' := s.toks) (fun b o hb q => eb b o hb q) f0 f1 f3 f4 f5⟩
  self := fun A i s Q E st h => let ⟨⟨_, he⟩, _⟩ := st; wpAny_pyIter_enum he h
def iEnum (K : PySem.W.Frag) (ta : TA) : TI := fun σ H R => ta σ H fun vs H1 => ∃ a xs, vs = [.ref a] ∧ SqL K H1 a xs ∧ R (Ite K a) H1
theorem pi_enum {X : Cx} {e : Expr} {ta : TA} {p pos tpos : Pos} {elts : List Expr} {kk : Nat} (hg : Gl X "enumerate") (hm : X.mg "enumerate" = none) (ha : PA X [e] ta) (hs : starEach [e] X.env = [(false, eval e X.env)] := by rfl) :
    PI X (.Tuple elts kk tpos) (.Call (.Name "enumerate" p) [e] [] pos) (iEnum X.K ta) := by
  intro pins s σ H R I h
  refine Call_ (ld_blt I hg hm boot_enumerate (PyProof.Rows.callWith_type1 (thn (ha pos pins s σ H _ I h) fun us s1 ⟨vs, H1, I1, r1, q1⟩ => ?_) hs rfl))
  obtain ⟨a, xs, ex, hq, q⟩ := q1
  subst ex
  cases r1 with
  | cons r rr =>
    cases rr
    cases r
    obtain ⟨its, rv, p', hz⟩ := I1.list hq
    refine call_enumerate_list p'.isList fun h' he hit hsz hk => wpAny_pyIter_enum he ?_
    have I2 : Inv X pins σ H1 { s1 with heap := h' } := I1.kept (t' := s1.toks) hk
    refine ⟨s1.heap.objs.size + 1, [s1.heap.objs.size + 1, s1.heap.objs.size], _, _, H1, rfl, I2, turn_enum a (s1.heap.objs.size + 1) s1.heap.objs.size, ⟨⟨.none, he⟩, hit, Nat.succ_ne_self _⟩, fun b hb => ?_, q⟩
    have e' : b = s1.heap.objs.size + 1 ∨ b = s1.heap.objs.size := by simpa using hb
    have hle : s1.heap.objs.size ≤ b := by
      rcases e' with z | z
      · rw [z]; exact Nat.le_add_right _ _
      · rw [z]; exact Nat.le_refl _
    exact I1.fpOk hle (I1.hok.fresh hle)
/-! ### zip(list, list) -/
theorem boot_zip5 : bootBuiltins "zip" = some (.type "zip") := by decide +kernel
end L2

section 
namespace Bits
open PySem PyProof.Rows








end Bits
end 

section 
namespace TL
open PySem PySem.Builtin PySem.Builtin.Str PySem.StrLaws


/-! ### the list functions -/




/-! ### the model's split and partition are these -/




/-! ### computing spl and par -/


/-! ### digits -/

/-! ### words: x.split() -/
end TL
end 

namespace L2
open PySem PySem.Spec PyProof.Rows




section
variable {X : Cx} {pins : List (Addr × Obj)} {σ : St} {H : Hp} {s : Shared} {Q : VK}
end

section
variable {X : Cx}





/-! ### of a text alone -/

/-! ### of a text and a text -/

end

section
variable {X : Cx} {o e : Expr} {to te : TE}

end
end L2

namespace L2
open PySem PySem.Spec PyProof.Rows

section
variable {X : Cx}
end

/-! ### slices of a text -/


end L2

namespace Att
open PySem PySem.W PySem.Calls PyProof.Rows

/-! ### the script -/



/-! ### the attachment: holds_open's last premise (the goal 'hc' behind k_head) from a wpAny of the law's body -/



/-! ### rules over ANY heap (no ledger) from facts about the written part K: the library's own take a ledger (News) for what they write -/
section
variable {prog : Program} {w : World} {A : Around} {E : Value → Shared → Prop} {s : Shared} {K : Frag}





/-! the whole heap as the ledger: makes every rule that writes through a ledger a rule over any heap -/

end
end Att

namespace L2
open PySem PySem.Spec PyProof.Rows



end L2

namespace L2
open PySem PySem.Spec PyProof.Rows


end L2

/- THE LAST THEOREM (shape; LID, My.* are yours):
   My.Adr: a structure of the addresses that your layer names (classes, functions); My.Txt K t: a structure (Prop) of the equations over K;
   My.txt_mk : {K} {implicit addresses ..} (e1 : nsIn K mainGlobals "law" = some (some (.ref f))) (e2 : K.lookup f = some ⟨oc, od, .func (fnOf "law" "law" params body scope dV kV doc pm an cdv ct), sl⟩) (e3 : codeIn K cdv "law" = true) .. : ∃ t, My.Txt K t

set_option maxRecDepth 100000 in
set_option maxHeartbeats 0 in
theorem PySem.Challenge.cw_LID_holds : PySem.Challenge.rw_LID.Holds := by
  w_on; o_law; k_head; (case hw => w_witness2)
  k_fill
  refine L2.walk_of (l := PySem.Challenge.rw_LID) (n := 63) (k := 40) (x := "script") (CX := fun w => ..) (sp := fun _ => My.sp_law) rfl (by decide) rfl ⟨rfl, by decide, by decide⟩ (fun w h Y => PySem.W.kIn_of Y) ?F ?S ?C
  case F =>
    intro w mg fa h KX G hmg
    have T : ∃ t, My.Txt (L2.KOf KX) t := by
      dsimp only [L2.KOf]                          -- K must stand as «<heap const> w.params» for k_is
      refine' My.txt_mk ?e1 ?e2 ?e3 ..
      (case e1 => PySem.W.k_is)                    -- in the order: a name -> its address -> its object -> its parts
      (case e2 => PySem.W.k_is)
      ..
    obtain ⟨t, T⟩ := T
    have e0 := hmg.symm.trans (PySem.W.mg_of KX G T.law)
    cases e0                                       -- fa is the law's own address
    exact ⟨_, fun s u => .of_eq rfl, fun base kb nb => My.law_fn T kb nb⟩     -- if «.of_eq rfl» comes too early: refine' ⟨_, ?b, fun base kb nb => My.law_fn T kb nb⟩; exact fun s u => .of_eq rfl
  case S => exact fun w H a ns hl hO hS => ..
  case C => exact ..
(the tactic k_is has no namespace: write k_is) -/

/-! SHORT WORDS over the layer: a def of the text, its body, what a loop and a test want. -/
namespace L2
open PySem PySem.Spec PyProof.Rows

/-! ### the text by places -/
/-- the j-th statement of a class's body -/
def inClass (s : Stmt) (j : Nat) : Stmt := match s with
  | .ClassDef _ _ _ body _ _ _ _ _ _ _ => body.getD j (.Pass ⟨0, 0, 0, 0⟩)
  | _ => .Pass ⟨0, 0, 0, 0⟩
def defArgs (s : Stmt) : Arguments := match s with
  | .FunctionDef _ a _ _ _ _ _ _ _ _ => a
  | _ => { posonlyargs := [], args := [], vararg := none, kwonlyargs := [], kw_defaults := [], kwarg := none, defaults := [] }
def defBody (s : Stmt) : List Stmt := match s with
  | .FunctionDef _ _ b _ _ _ _ _ _ _ => b
  | _ => []
def defScope (s : Stmt) : Scope := match s with
  | .FunctionDef _ _ _ _ _ _ sc _ _ _ => sc
  | _ => { kind := .function, names := [], isGenerator := false, isCoroutine := false }

/-! ### no exception leaves a def -/
abbrev CX0 : CXT := fun _ _ _ _ _ _ => False
abbrev E0 : XK := fun _ _ _ => False
theorem pass0 {X : Cx} : Passes CX0 X E0 := fun _ _ _ _ _ _ _ h => h.elim

/-! ### a def (or method) of the text as it stands behind the top -/
structure Fun (K : PySem.W.Frag) (x qual : Str) (st : Stmt) (f : Addr) (fd : FuncData) : Prop where
  ex : ∃ (oc : Value) (od : Option Addr) (kV doc pm : Value) (an : Option Addr) (cdv ct : Value) (osl : Array (Option Value)),
    fd = PySem.W.fnOf x qual (defArgs st) (defBody st) (defScope st) .none kV doc pm an cdv ct ∧ K.lookup f = some ⟨oc, od, .func fd, osl⟩ ∧ PySem.W.codeIn K cdv qual = true
  kp : PySem.W.keepIn K (.ref f) = true
section
variable {P : Program} {w : World} {K : PySem.W.Frag} {mg : Str → Option Value} {base : Heap}
/-- THE RULE for a def: its body as a term of rules, and the reading of that term -/
theorem Fun.ok {x qual : Str} {st : Stmt} {f : Addr} {fd : FuncData} {N ps : List Str} {k : Nat} {sp : Sp} (F : Fun K x qual st f fd) (S : FnScope N ps (defScope st)) (len : ∀ vs H Q E, sp vs H Q E → vs.length = ps.length)
    (hbody : ∀ (cdv : Value) (A : Around) (outer : List Env) (s : Shared) (H : Hp) (vs : List V) (Q : VK) (E : XK), Room k (A.deeper (envOfC qual (defScope st) s.heap.objs.size f cdv)) → sp vs H Q E →
      ∃ t, PSs (cxOf CX0 P w K mg base N qual (defScope st) f cdv A outer s H E).nox (defBody st) t ∧ t { nx := fun _ H' => Q .non H', rt := Q } (start N vs) H) : FnOk P w K mg base CX0 (k + 1) f fd ps sp := by
  obtain ⟨oc, od, kV, doc, pm, an, cdv, ct, osl, rfl, lk, hcd⟩ := F.ex
  refine fn_of lk hcd S len fun A outer s H vs Q E hr hsp => ?_
  obtain ⟨t, h, q⟩ := hbody cdv A outer s H vs Q E hr hsp
  exact ⟨t, h.nox, q⟩
/-- how its arguments bind (no defaults): h is «fun _ _ _ _ _ _ us hl => match us, hl with | [_, _], _ => rfl», one _ a parameter -/
theorem Fun.binds {x qual : Str} {st : Stmt} {f : Addr} {fd : FuncData} {ps : List Str} (F : Fun K x qual st f fd)
    (h : ∀ (kV doc pm : Value) (an : Option Addr) (cdv ct : Value) (us : List Value), us.length = ps.length → bindArgs (PySem.W.fnOf x qual (defArgs st) (defBody st) (defScope st) .none kV doc pm an cdv ct) ⟨us, []⟩ = pure (ps.zip us)) : Binds K fd ps [] := by
  obtain ⟨oc, od, kV, doc, pm, an, cdv, ct, osl, rfl, lk, hcd⟩ := F.ex
  exact .all (h kV doc pm an cdv ct)
theorem fun_mk {x qual : Str} {st : Stmt} {f : Addr} {oc : Value} {od an : Option Addr} {osl : Array (Option Value)} {kV doc pm cdv ct : Value} (l : K.lookup f = some ⟨oc, od, .func (PySem.W.fnOf x qual (defArgs st) (defBody st) (defScope st) .none kV doc pm an cdv ct), osl⟩)
    (c : PySem.W.codeIn K cdv qual = true) (k : PySem.W.keepIn K (.ref f) = true) : Fun K x qual st f (PySem.W.fnOf x qual (defArgs st) (defBody st) (defScope st) .none kV doc pm an cdv ct) := ⟨⟨oc, od, kV, doc, pm, an, cdv, ct, osl, rfl, l, c⟩, k⟩
end
theorem hu_of {A : Around} {k : Nat} (hr : Room k A) : A.units + 1 < cLine := Nat.lt_of_le_of_lt (Nat.add_le_add_left (by decide : 1 ≤ 64) _) hr.units
theorem small1000 {n : Nat} (h : n ≤ 1000) : n < sizeLine := Nat.lt_of_le_of_lt h (by decide)

/-! ### expressions in short: the name that stands in the i-th slot -/
section
variable {X : Cx}
theorem pv (i : Nat) {x : Str} {pos : Pos} (hN : X.N[i]? = some x := by rfl) (hv : Vis X.env.scope x := by first | exact Or.inl rfl | exact Or.inr (Or.inl rfl) | exact Or.inr (Or.inr rfl)) (hd : (x == ("__debug__" : Str)) = false := by decide)
    (hcd : (x == ("__classdict__" : Str)) = false := by decide) : PE X (.Name x pos) (tVar i) := pe_var hN hv hd hcd
end

/-! ### tests -/
theorem iteF {A B : Prop} (h : B) : if false = true then A else B := by
  rw [if_neg Bool.false_ne_true]
  exact h
theorem iteT {A B : Prop} (h : A) : if true = true then A else B := by
  rw [if_pos rfl]
  exact h
theorem ite2 {c A B : Prop} [Decidable c] (h1 : c → A) (h2 : ¬ c → B) : if c then A else B := by
  by_cases h : c
  · rw [if_pos h]
    exact h1 h
  · rw [if_neg h]
    exact h2 h

/-! ### heaps -/
/-- all that was tracked is as it was -/
def Same (H H' : Hp) : Prop := ∀ b o, H b = some o → H' b = some o
theorem Same.refl (H : Hp) : Same H H := fun _ _ h => h
theorem Same.trans {H H1 H2 : Hp} (a : Same H H1) (b : Same H1 H2) : Same H H2 := fun c o h => b c o (a c o h)
theorem Same.free {H H' : Hp} (e : Same H H') {l : Addr} (h : H' l = Option.none) : H l = Option.none := by
  cases q : H l with
  | none => rfl
  | some o =>
    rw [e l o q] at h
    cases h
theorem Same.seq {K : PySem.W.Frag} {H H' : Hp} {a : Addr} {xs : List V} (e : Same H H') (h : SqL K H a xs) : SqL K H' a xs := by
  rcases h with (h | ⟨o, h⟩) | h
  · exact .inl (.inl (e _ _ h))
  · exact .inl (.inr ⟨o, e _ _ h⟩)
  · exact .inr h

/-! ### a dict's pairs: keys that differ -/
section
variable {κ : Type} [DecidableEq κ]
end
/-! ### lists -/
theorem at_of {xs : List V} {z : Int} {j : Nat} {v : V} (e : z = (j : Int)) (h : xs[j]? = some v) : atI xs z = some v := by
  rw [e]
  exact atI_nat h
end L2
end

section
section
set_option Elab.async false
set_option linter.all false
set_option maxRecDepth 100000
set_option maxHeartbeats 2000000
namespace L2
open PySem PySem.Spec PyProof.Rows
open PySem.W (WData Codec OpenSpec Well WellAll ReadsW ReadsAllW)
/-! ### an answer as data -/
mutual
/-- x stands for the datum d, lists and tuples all the way -/
inductive Dw (K : PySem.W.Frag) (H : Hp) : V → WData → Prop
  | non : Dw K H .non .none
  | bl (b : Bool) : Dw K H (.bl b) (.bool b)
  | int (i : Int) : Dw K H (.int i) (.int i)
  | str (x : Str) : Dw K H (.str x) (.str x)
  | byt (b : Array UInt8) : Dw K H (.byt b) (.bytes b.toList)
  | lst {a : Addr} {xs : List V} {ds : List WData} : SqL K H a xs → DwAll K H xs ds → Dw K H (.ref a) (.list ds)
  | tup {a : Addr} {xs : List V} {ds : List WData} : SqT K H a xs → DwAll K H xs ds → Dw K H (.ref a) (.tuple ds)
inductive DwAll (K : PySem.W.Frag) (H : Hp) : List V → List WData → Prop
  | nil : DwAll K H [] []
  | cons {v : V} {vs : List V} {d : WData} {ds : List WData} : Dw K H v d → DwAll K H vs ds → DwAll K H (v :: vs) (d :: ds)
end
theorem dw_ints {K : PySem.W.Frag} {H : Hp} : ∀ ns : List Int, DwAll K H (ns.map V.int) (ns.map WData.int)
  | [] => .nil
  | n :: r => .cons (.int n) (dw_ints r)
theorem ints_dw {K : PySem.W.Frag} {H : Hp} : ∀ (ns : List Int) (xs : List V), DwAll K H xs (ns.map WData.int) → xs = ns.map V.int
  | [], xs, h => by
    cases h
    rfl
  | n :: r, xs, h => by
    cases h with
    | cons h1 h2 =>
      cases h1
      rw [ints_dw r _ h2] <;> rfl
section
variable {P : Program} {w : World} {K : PySem.W.Frag} {H : Hp} {h : Heap} {R : PySem.W.WRecords} {cl : Str → Option Addr}
theorem sqL_at {a : Addr} {xs : List V} (hok : HOk P w H h) (KX : K.In h) (q : SqL K H a xs) : ∃ (its : List Value) (o : Obj) (n : Nat), Vals xs its ∧ h.get? a = some o ∧ o.cls = .type "list" ∧ o.data = .seq its.toArray n := by
  rcases q with q | ⟨o, its, n, e, hc, _, hd, _, hv⟩
  · obtain ⟨_, its, n, hv, e⟩ := (show ObjOk P w H h a (.lst xs) from q.ok hok)
    exact ⟨its, _, n, hv, e, rfl, rfl⟩
  · exact ⟨its.toList, o, n, hv, KX _ _ e, hc, by simp [hd]⟩
theorem sqT_at {a : Addr} {xs : List V} (hok : HOk P w H h) (KX : K.In h) (q : SqT K H a xs) : ∃ (its : List Value) (o : Obj) (n : Nat), Vals xs its ∧ h.get? a = some o ∧ o.cls = .type "tuple" ∧ o.data = .seq its.toArray n := by
  rcases q with q | ⟨o, its, n, e, hc, hd, _, hv⟩
  · obtain ⟨_, its, hv, o, e, hc, n, hd⟩ := (show ObjOk P w H h a (.tup xs) from q.ok hok)
    exact ⟨its, o, n, hv, e, hc, hd⟩
  · exact ⟨its.toList, o, n, hv, KX _ _ e, hc, by simp [hd]⟩
mutual
theorem Dw.reads (hok : HOk P w H h) (KX : K.In h) : ∀ (d : WData) (v : V) (u : Value), Dw K H v d → RelV v u → ∃ as, ReadsW R cl h u d as
  | .none, _, _, x, r => by
    cases x
    cases r
    exact ⟨_, ReadsW.none⟩
  | .bool b, _, _, x, r => by
    cases x
    cases r
    exact ⟨_, ReadsW.bool b⟩
  | .int i, _, _, x, r => by
    cases x
    obtain ⟨t, rfl⟩ := r
    exact ⟨_, ReadsW.int i t⟩
  | .str s, _, _, x, r => by
    cases x
    obtain ⟨t, rfl⟩ := r
    exact ⟨_, ReadsW.str s t⟩
  | .bytes b, _, _, x, r => by
    cases x
    obtain ⟨t, rfl⟩ := r
    exact ⟨_, ReadsW.bytes _ t⟩
  | .list ds, _, _, x, r => by
    cases x with
    | lst hs ha =>
      cases r
      obtain ⟨its, o, n, rv, ho, hc, hd⟩ := sqL_at hok KX hs
      obtain ⟨as, hr⟩ := Dw.readsAll hok KX ds _ its ha rv
      exact ⟨_, ReadsW.list ho hc hd hr⟩
  | .tuple ds, _, _, x, r => by
    cases x with
    | tup hs ha =>
      cases r
      obtain ⟨its, o, n, rv, ho, hc, hd⟩ := sqT_at hok KX hs
      obtain ⟨as, hr⟩ := Dw.readsAll hok KX ds _ its ha rv
      exact ⟨_, ReadsW.tuple ho hc hd hr⟩
  | .float _, _, _, x, _ => by cases x
  | .dict _, _, _, x, _ => by cases x
  | .bytearray _, _, _, x, _ => by cases x
  | .set _, _, _, x, _ => by cases x
  | .frozenset _, _, _, x, _ => by cases x
  | .obj _ _, _, _, x, _ => by cases x
theorem Dw.readsAll (hok : HOk P w H h) (KX : K.In h) : ∀ (ds : List WData) (vs : List V) (us : List Value), DwAll K H vs ds → Vals vs us → ∃ as, ReadsAllW R cl h us ds as
  | [], _, _, x, r => by
    cases x
    cases r
    exact ⟨_, ReadsAllW.nil⟩
  | d :: ds, _, _, x, r => by
    cases x with
    | cons h1 h2 =>
      cases r with
      | cons r1 r2 =>
        obtain ⟨as, q1⟩ := Dw.reads hok KX d _ _ h1 r1
        obtain ⟨bs, q2⟩ := Dw.readsAll hok KX ds _ _ h2 r2
        exact ⟨_, ReadsAllW.cons q1 q2⟩
end
end
/-! ### the arguments -/
mutual
/-- data that a codec tells -/
def plW : WData → Bool
  | .none => true
  | .bool _ => true
  | .int _ => true
  | .str _ => true
  | .bytes _ => true
  | .list xs => plWs xs
  | .tuple xs => plWs xs
  | _ => false
def plWs : List WData → Bool
  | [] => true
  | x :: r => plW x && plWs r
end
theorem plWs_map {α : Type} {f : α → WData} (h : ∀ a, plW (f a) = true) : ∀ l : List α, plWs (l.map f) = true
  | [] => rfl
  | x :: r => by
    show (plW (f x) && plWs (r.map f)) = true
    rw [h x, plWs_map h r] <;> rfl
theorem pl_enc : ∀ (c : Codec) (a : c.denote), plW (c.enc a) = true
  | .unit, _ => rfl
  | .bool, _ => rfl
  | .int _ _, _ => rfl
  | .nat _ _, _ => rfl
  | .u8, _ => rfl
  | .bytes _ _, _ => rfl
  | .text _ _ _ _, _ => rfl
  | .list _ _ c, a => plWs_map (fun x => pl_enc c x) a
  | .pair c d, a => by
    show (plW (c.enc a.1) && (plW (d.enc a.2) && true)) = true
    rw [pl_enc c a.1, pl_enc d a.2] <;> rfl
  | .triple c d e, a => by
    show (plW (c.enc a.1) && (plW (d.enc a.2.1) && (plW (e.enc a.2.2) && true))) = true
    rw [pl_enc c a.1, pl_enc d a.2.1, pl_enc e a.2.2] <;> rfl
  | .option c, none => rfl
  | .option c, some x => pl_enc c x
theorem pl_encAll : ∀ (cs : List Codec) (a : Codec.denoteAll cs), plWs (Codec.encAll cs a) = true
  | [], _ => rfl
  | c :: cs, a => by
    show (plW (c.enc a.1) && plWs (Codec.encAll cs a.2)) = true
    rw [pl_enc c a.1, pl_encAll cs a.2] <;> rfl
theorem weight_mem : ∀ {xs : List WData} {d : WData}, d ∈ xs → d.weight ≤ WData.weightAll xs
  | [], d, h => absurd h (by simp)
  | x :: r, d, h => by
    show d.weight ≤ x.weight + 1 + WData.weightAll r
    rcases List.mem_cons.mp h with e | m
    · rw [e]
      omega
    · have z := weight_mem m
      omega
def toV : Value → V
  | .none => .non
  | .bool b => .bl b
  | .int i _ => .int i
  | .str x _ => .str x
  | .bytes b _ => .byt b
  | .ref a => .ref a
  | _ => .non
/-- a value of the arguments, its objects among A -/
def OkU (A : List Addr) : Value → Prop
  | .none => True
  | .bool _ => True
  | .int _ _ => True
  | .str _ _ => True
  | .bytes _ _ => True
  | .ref a => a ∈ A
  | _ => False
theorem OkU.mono {A B : List Addr} (h : ∀ a ∈ A, a ∈ B) : ∀ {u : Value}, OkU A u → OkU B u := fun {u} x => by
  cases u with
  | ref a => exact h a x
  | none => trivial
  | bool b => trivial
  | int i t => trivial
  | str s t => trivial
  | bytes b t => trivial
  | _ => exact False.elim x
theorem relV_toV {A : List Addr} {u : Value} (x : OkU A u) : RelV (toV u) u := by
  cases u with
  | ref a => rfl
  | none => rfl
  | bool b => rfl
  | int i t => exact ⟨t, rfl⟩
  | str s t => exact ⟨t, rfl⟩
  | bytes b t => exact ⟨t, rfl⟩
  | _ => exact False.elim x
theorem vals_toV {A : List Addr} : ∀ {vs : List Value}, (∀ u ∈ vs, OkU A u) → Vals (vs.map toV) vs
  | [], _ => .nil
  | u :: r, h => .cons (relV_toV (h u (List.mem_cons_self ..))) (vals_toV fun x hx => h x (List.mem_cons_of_mem _ hx))
/-- an object of the arguments -/
def ArgOb (h : Heap) (A : List Addr) (a : Addr) : Prop := ∃ vs : List Value, vs.length ≤ sizeLine ∧ (∀ u ∈ vs, OkU A u) ∧
  (h.get? a = some { cls := .type "list", data := .seq vs.toArray } ∨ h.get? a = some { cls := .type "tuple", data := .seq vs.toArray })
theorem ArgOb.mono {h : Heap} {A B : List Addr} {a : Addr} (k : ∀ a ∈ A, a ∈ B) (x : ArgOb h A a) : ArgOb h B a := by
  obtain ⟨vs, h1, h2, h3⟩ := x
  exact ⟨vs, h1, fun u hu => (h2 u hu).mono k, h3⟩
theorem wellAll_len {P : Params} {h : Heap} : ∀ {vs : List Value} {ds : List WData}, WellAll P h vs ds → vs.length = ds.length
  | _, _, .nil => rfl
  | _, _, .cons _ b => by
    show _ + 1 = _ + 1
    rw [wellAll_len b]
theorem well_list {P : Params} {h : Heap} {v : Value} {ds : List WData} (x : Well P h v (.list ds)) : ∃ (a : Addr) (vs : List Value), v = .ref a ∧ h.get? a = some { cls := .type "list", data := .seq vs.toArray } ∧ WellAll P h vs ds := by
  cases x with
  | list ho hall => exact ⟨_, _, rfl, ho, hall⟩
theorem well_tuple {P : Params} {h : Heap} {v : Value} {ds : List WData} (x : Well P h v (.tuple ds)) : ∃ (a : Addr) (vs : List Value), v = .ref a ∧ h.get? a = some { cls := .type "tuple", data := .seq vs.toArray } ∧ WellAll P h vs ds := by
  cases x with
  | tuple ho hall => exact ⟨_, _, rfl, ho, hall⟩
theorem well_cons {P : Params} {h : Heap} {us : List Value} {d : WData} {ds : List WData} (x : WellAll P h us (d :: ds)) : ∃ (v : Value) (vs : List Value), us = v :: vs ∧ Well P h v d ∧ WellAll P h vs ds := by
  cases x with
  | cons a b => exact ⟨_, _, rfl, a, b⟩
theorem line_of {n : Nat} (h : n ≤ 1048576) : n ≤ sizeLine := Nat.le_trans h (by decide)
section
variable {P : Params} {h : Heap}
mutual
theorem area_one : ∀ (d : WData) (v : Value), Well P h v d → plW d = true → d.weight ≤ 1048576 → ∃ A : List Addr, OkU A v ∧ ∀ a ∈ A, ArgOb h A a
  | .none, _, x, _, _ => by
    cases x
    exact ⟨[], trivial, fun a m => absurd m (by simp)⟩
  | .bool b, _, x, _, _ => by
    cases x
    exact ⟨[], trivial, fun a m => absurd m (by simp)⟩
  | .int i, _, x, _, _ => by
    cases x
    exact ⟨[], trivial, fun a m => absurd m (by simp)⟩
  | .str s, _, x, _, _ => by
    cases x
    exact ⟨[], trivial, fun a m => absurd m (by simp)⟩
  | .bytes b, _, x, _, _ => by
    cases x
    exact ⟨[], trivial, fun a m => absurd m (by simp)⟩
  | .list ds, _, x, p, z => by
    obtain ⟨a, vs, rfl, ho, hall⟩ := well_list x
    have z2 : WData.weightAll ds ≤ 1048576 := z
    obtain ⟨A, h1, h2⟩ := area_all ds _ hall p fun d hd => Nat.le_trans (weight_mem hd) z2
    have k : ∀ b ∈ A, b ∈ a :: A := fun b hb => List.mem_cons_of_mem _ hb
    refine ⟨a :: A, List.mem_cons_self .., fun b hb => ?_⟩
    rcases List.mem_cons.mp hb with e | m
    · rw [e]
      exact ⟨vs, line_of (by rw [wellAll_len hall]; exact Nat.le_trans (PySem.W.length_le_weightAllW ds) z2), fun u hu => (h1 u hu).mono k, .inl ho⟩
    · exact (h2 b m).mono k
  | .tuple ds, _, x, p, z => by
    obtain ⟨a, vs, rfl, ho, hall⟩ := well_tuple x
    have z2 : WData.weightAll ds ≤ 1048576 := z
    obtain ⟨A, h1, h2⟩ := area_all ds _ hall p fun d hd => Nat.le_trans (weight_mem hd) z2
    have k : ∀ b ∈ A, b ∈ a :: A := fun b hb => List.mem_cons_of_mem _ hb
    refine ⟨a :: A, List.mem_cons_self .., fun b hb => ?_⟩
    rcases List.mem_cons.mp hb with e | m
    · rw [e]
      exact ⟨vs, line_of (by rw [wellAll_len hall]; exact Nat.le_trans (PySem.W.length_le_weightAllW ds) z2), fun u hu => (h1 u hu).mono k, .inr ho⟩
    · exact (h2 b m).mono k
  | .float _, _, _, p, _ => Bool.noConfusion (show false = true from p)
  | .dict _, _, _, p, _ => Bool.noConfusion (show false = true from p)
  | .bytearray _, _, _, p, _ => Bool.noConfusion (show false = true from p)
  | .set _, _, _, p, _ => Bool.noConfusion (show false = true from p)
  | .frozenset _, _, _, p, _ => Bool.noConfusion (show false = true from p)
  | .obj _ _, _, _, p, _ => Bool.noConfusion (show false = true from p)
theorem area_all : ∀ (ds : List WData) (vs : List Value), WellAll P h vs ds → plWs ds = true → (∀ d ∈ ds, d.weight ≤ 1048576) → ∃ A : List Addr, (∀ u ∈ vs, OkU A u) ∧ ∀ a ∈ A, ArgOb h A a
  | [], _, x, _, _ => by
    cases x
    exact ⟨[], fun u m => absurd m (by simp), fun a m => absurd m (by simp)⟩
  | d :: ds, _, x, p, z => by
    obtain ⟨v, vs, rfl, x1, x2⟩ := well_cons x
    have q : plW d = true ∧ plWs ds = true := Bool.and_eq_true_iff.mp p
    obtain ⟨A, a1, a2⟩ := area_one d v x1 q.1 (z d (List.mem_cons_self ..))
    obtain ⟨B, b1, b2⟩ := area_all ds vs x2 q.2 fun e he => z e (List.mem_cons_of_mem _ he)
    have kA : ∀ b ∈ A, b ∈ A ++ B := fun b hb => List.mem_append.mpr (.inl hb)
    have kB : ∀ b ∈ B, b ∈ A ++ B := fun b hb => List.mem_append.mpr (.inr hb)
    refine ⟨A ++ B, fun u hu => ?_, fun b hb => ?_⟩
    · rcases List.mem_cons.mp hu with e | m
      · rw [e]
        exact a1.mono kA
      · exact (b1 u m).mono kB
    · rcases List.mem_append.mp hb with m | m
      · exact (a2 b m).mono kA
      · exact (b2 b m).mono kB
end
end
/-- what is tracked of an argument's object -/
def hoOf (o : Obj) : Option HO := match o.data with
  | .seq vs _ => if (o.cls == Value.type "list") = true then some (.frz o (.lst (vs.toList.map toV))) else some (.frz o (.tup (vs.toList.map toV)))
  | _ => none
def argH (K : PySem.W.Frag) (h : Heap) (A : List Addr) : Hp := fun b => if b ∈ A then (if (K.lookup b).isNone = true then (h.get? b).bind hoOf else none) else none
/-- nothing is tracked but what is known to the object -/
def OnlyF (H : Hp) : Prop := ∀ b, H b = none ∨ ∃ o u, H b = some (.frz o u)
theorem hoOf_lst (vs : List Value) : hoOf { cls := .type "list", data := .seq vs.toArray } = some (.frz { cls := .type "list", data := .seq vs.toArray } (.lst (vs.map toV))) := by
  show (if (Value.type "list" == Value.type "list") = true then some (HO.frz { cls := .type "list", data := .seq vs.toArray } (.lst (vs.toArray.toList.map toV))) else some (HO.frz { cls := .type "list", data := .seq vs.toArray } (.tup (vs.toArray.toList.map toV)))) = _
  rw [if_pos (beq_self_eq_true _)]
theorem hoOf_tup (vs : List Value) : hoOf { cls := .type "tuple", data := .seq vs.toArray } = some (.frz { cls := .type "tuple", data := .seq vs.toArray } (.tup (vs.map toV))) := by
  show (if (Value.type "tuple" == Value.type "list") = true then some (HO.frz { cls := .type "tuple", data := .seq vs.toArray } (.lst (vs.toArray.toList.map toV))) else some (HO.frz { cls := .type "tuple", data := .seq vs.toArray } (.tup (vs.toArray.toList.map toV)))) = _
  rw [if_neg (by decide)]
section
variable {P : Program} {w : World} {K : PySem.W.Frag} {h : Heap} {A : List Addr}
theorem argH_at {b : Addr} {o : Obj} (hb : b ∈ A) (hk : K.lookup b = none) (e : h.get? b = some o) : argH K h A b = hoOf o := by
  unfold argH
  rw [if_pos hb, hk, if_pos (show (none : Option Obj).isNone = true from rfl), e] <;> rfl
theorem of_argH {b : Addr} {u : HO} (q : argH K h A b = some u) : b ∈ A ∧ K.lookup b = none := by
  unfold argH at q
  by_cases hb : b ∈ A
  · rw [if_pos hb] at q
    cases hk : K.lookup b with
    | none => exact ⟨hb, rfl⟩
    | some o =>
      rw [hk, if_neg (by simp)] at q
      cases q
  · rw [if_neg hb] at q
    cases q
/-- what stands tracked -/
theorem argH_is (ar : ∀ a ∈ A, ArgOb h A a) {b : Addr} {u : HO} (q : argH K h A b = some u) : K.lookup b = none ∧ ∃ vs : List Value, vs.length ≤ sizeLine ∧ (∀ u ∈ vs, OkU A u) ∧
    ((h.get? b = some { cls := .type "list", data := .seq vs.toArray } ∧ u = .frz { cls := .type "list", data := .seq vs.toArray } (.lst (vs.map toV))) ∨
     (h.get? b = some { cls := .type "tuple", data := .seq vs.toArray } ∧ u = .frz { cls := .type "tuple", data := .seq vs.toArray } (.tup (vs.map toV)))) := by
  obtain ⟨hb, hk⟩ := of_argH q
  obtain ⟨vs, h1, h2, h3⟩ := ar b hb
  refine ⟨hk, vs, h1, h2, ?_⟩
  rcases h3 with e | e
  · rw [argH_at hb hk e, hoOf_lst] at q
    exact .inl ⟨e, (Option.some.inj q).symm⟩
  · rw [argH_at hb hk e, hoOf_tup] at q
    exact .inr ⟨e, (Option.some.inj q).symm⟩
theorem argH_only (ar : ∀ a ∈ A, ArgOb h A a) : OnlyF (argH K h A) := fun b => by
  cases q : argH K h A b with
  | none => exact .inl rfl
  | some u =>
    obtain ⟨_, vs, _, _, ⟨_, e⟩ | ⟨_, e⟩⟩ := argH_is ar q
    · exact .inr ⟨_, _, by rw [e]⟩
    · exact .inr ⟨_, _, by rw [e]⟩
theorem argH_ok (ar : ∀ a ∈ A, ArgOb h A a) : HOk P w (argH K h A) h := fun b u q => by
  obtain ⟨_, vs, h1, h2, ⟨e, rfl⟩ | ⟨e, rfl⟩⟩ := argH_is ar q
  · exact ⟨e, by rw [List.length_map]; exact h1, vs, _, vals_toV h2, e⟩
  · exact ⟨e, by rw [List.length_map]; exact h1, vs, vals_toV h2, _, e, rfl, _, rfl⟩
theorem seq_inj {c c' : Value} {vs us : List Value} (e : (some { cls := c, data := .seq vs.toArray } : Option Obj) = some { cls := c', data := .seq us.toArray }) : c = c' ∧ vs = us := by
  have e1 := Option.some.inj e
  have e2 : c = c' := congrArg Obj.cls e1
  have e3 : Data.seq vs.toArray = Data.seq us.toArray := congrArg Obj.data e1
  injection e3 with e4
  refine ⟨e2, ?_⟩
  have e5 := congrArg Array.toList e4
  simpa using e5
/-- a list argument -/
theorem argL (KX : K.In h) (ar : ∀ a ∈ A, ArgOb h A a) {a : Addr} {vs : List Value} (ha : a ∈ A) (e : h.get? a = some { cls := .type "list", data := .seq vs.toArray }) : (∀ u ∈ vs, OkU A u) ∧ SqL K (argH K h A) a (vs.map toV) := by
  obtain ⟨us, h1, h2, h3⟩ := ar a ha
  have hu : us = vs := by
    rcases h3 with q | q
    · rw [e] at q
      exact (seq_inj q).2.symm
    · rw [e] at q
      exact absurd (Value.type.inj (seq_inj q).1) (by decide)
  subst hu
  refine ⟨h2, ?_⟩
  cases hk : K.lookup a with
  | none => exact .inl (.inr ⟨_, by rw [argH_at ha hk e, hoOf_lst]⟩)
  | some o =>
    have e2 := KX a o hk
    rw [e] at e2
    obtain rfl := Option.some.inj e2
    exact .inr ⟨_, us.toArray, _, hk, rfl, rfl, rfl, by rw [List.size_toArray]; exact h1, by simpa using vals_toV h2⟩
theorem argT (KX : K.In h) (ar : ∀ a ∈ A, ArgOb h A a) {a : Addr} {vs : List Value} (ha : a ∈ A) (e : h.get? a = some { cls := .type "tuple", data := .seq vs.toArray }) : (∀ u ∈ vs, OkU A u) ∧ SqT K (argH K h A) a (vs.map toV) := by
  obtain ⟨us, h1, h2, h3⟩ := ar a ha
  have hu : us = vs := by
    rcases h3 with q | q
    · rw [e] at q
      exact absurd (Value.type.inj (seq_inj q).1) (by decide)
    · rw [e] at q
      exact (seq_inj q).2.symm
  subst hu
  refine ⟨h2, ?_⟩
  cases hk : K.lookup a with
  | none => exact .inl (.inr ⟨_, by rw [argH_at ha hk e, hoOf_tup]⟩)
  | some o =>
    have e2 := KX a o hk
    rw [e] at e2
    obtain rfl := Option.some.inj e2
    exact .inr ⟨_, us.toArray, _, hk, rfl, rfl, by rw [List.size_toArray]; exact h1, by simpa using vals_toV h2⟩
mutual
theorem dw_one {Pm : Params} (KX : K.In h) (ar : ∀ a ∈ A, ArgOb h A a) : ∀ (d : WData) (v : Value), Well Pm h v d → plW d = true → OkU A v → Dw K (argH K h A) (toV v) d
  | .none, _, x, _, _ => by
    cases x
    exact .non
  | .bool b, _, x, _, _ => by
    cases x
    exact .bl b
  | .int i, _, x, _, _ => by
    cases x
    exact .int i
  | .str s, _, x, _, _ => by
    cases x
    exact .str s
  | .bytes b, _, x, _, _ => by
    cases x
    have z := Dw.byt (K := K) (H := argH K h A) b.toArray
    exact z
  | .list ds, _, x, p, hu => by
    obtain ⟨a, vs, rfl, ho, hall⟩ := well_list x
    obtain ⟨h2, hs⟩ := argL KX ar hu ho
    exact .lst hs (dw_all KX ar ds _ hall p h2)
  | .tuple ds, _, x, p, hu => by
    obtain ⟨a, vs, rfl, ho, hall⟩ := well_tuple x
    obtain ⟨h2, hs⟩ := argT KX ar hu ho
    exact .tup hs (dw_all KX ar ds _ hall p h2)
  | .float _, _, _, p, _ => Bool.noConfusion (show false = true from p)
  | .dict _, _, _, p, _ => Bool.noConfusion (show false = true from p)
  | .bytearray _, _, _, p, _ => Bool.noConfusion (show false = true from p)
  | .set _, _, _, p, _ => Bool.noConfusion (show false = true from p)
  | .frozenset _, _, _, p, _ => Bool.noConfusion (show false = true from p)
  | .obj _ _, _, _, p, _ => Bool.noConfusion (show false = true from p)
theorem dw_all {Pm : Params} (KX : K.In h) (ar : ∀ a ∈ A, ArgOb h A a) : ∀ (ds : List WData) (vs : List Value), WellAll Pm h vs ds → plWs ds = true → (∀ u ∈ vs, OkU A u) → DwAll K (argH K h A) (vs.map toV) ds
  | [], _, x, _, _ => by
    cases x
    exact .nil
  | d :: ds, _, x, p, hu => by
    obtain ⟨v, vs, rfl, x1, x2⟩ := well_cons x
    have q : plW d = true ∧ plWs ds = true := Bool.and_eq_true_iff.mp p
    exact .cons (dw_one KX ar d v x1 q.1 (hu _ (List.mem_cons_self ..))) (dw_all KX ar ds vs x2 q.2 fun u m => hu u (List.mem_cons_of_mem _ m))
end
end
/-! ### the call -/
/-! ### the row -/
theorem layable_weight {ds : List WData} (h : WData.layableAll ds = true) : ∀ d ∈ ds, d.weight ≤ 1048576 := fun d hd =>
  (PySem.W.layableW_iff.mp (List.all_eq_true.mp h d hd)).2.2
theorem encAll_len : ∀ (cs : List Codec) (a : Codec.denoteAll cs), (Codec.encAll cs a).length = cs.length
  | [], _ => rfl
  | c :: cs, a => by
    show (Codec.encAll cs a.2).length + 1 = cs.length + 1
    rw [encAll_len cs a.2]
end L2
end
end

section
set_option Elab.async false
set_option linter.all false
set_option maxRecDepth 100000
set_option maxHeartbeats 2000000
/-! ### zip(list, text) -/
namespace L2
open PySem PySem.Spec PyProof.Rows
def Itzs (K : PySem.W.Frag) (a : Addr) (y : Str) : It :=
  ⟨fun i H => ∃ (xs : List V) (x : V) (c : Nat), SqL K H a xs ∧ xs[i]? = some x ∧ y.cps[i]? = some c,
    fun i H v H' => ∃ T x c, v = .ref T ∧ H T = none ∧ H' = upd H T (.tup [x, .str ⟨#[c]⟩]) ∧ (∀ xs, SqL K H a xs → xs[i]? = some x) ∧ y.cps[i]? = some c,
    fun i H => ∃ xs : List V, SqL K H a xs ∧ (xs.length ≤ i ∨ y.cps.size ≤ i)⟩
theorem turn_zipS {P : Program} {w : World} {K : PySem.W.Frag} {elts : List Expr} {kk : Nat} {tpos : Pos} {a z TI TO i1 i2 : Addr} {y : Str} {t : Tok} (D : Zs.Apart z TI TO i1 i2 a) :
    Turn P w K (.Tuple elts kk tpos) (Itzs K a y) [z, TI, TO, i1, i2] z (fun i h => IsZip h z TI TO .none ∧ IsPair h TI (.ref i1) (.ref i2) ∧ (∃ x y, IsPair h TO x y) ∧ h.IsListIter i1 a i ∧ Zs.IsSI h i2 y t i) where
  mem := by simp
  obj := fun i h st c hc => by
    obtain ⟨hz, hTI, ⟨x, y, hTO⟩, ⟨o1, e1, _, d1⟩, ⟨o2, e2, _, d2⟩⟩ := st
    have e' : c = z ∨ c = TI ∨ c = TO ∨ c = i1 ∨ c = i2 := by simpa using hc
    rcases e' with q | q | q | q | q
    · rw [q]; exact ⟨_, hz, fun v q => nomatch q⟩
    · rw [q]; exact ⟨_, hTI, fun v q => nomatch q⟩
    · rw [q]; exact ⟨_, hTO, fun v q => nomatch q⟩
    · rw [q]; exact ⟨o1, e1, fun v q => by rw [d1] at q; cases q⟩
    · rw [q]; exact ⟨o2, e2, fun v q => by rw [d2] at q; cases q⟩
  keep := fun i h h' st k => by
    obtain ⟨hz, hTI, ⟨x, y, hTO⟩, h1, h2⟩ := st
    exact ⟨k z (by simp) _ hz, k TI (by simp) _ hTI, ⟨x, y, k TO (by simp) _ hTO⟩, h1.at fun o q => k i1 (by simp) o q, h2.at fun o q => k i2 (by simp) o q⟩
  item := by
    intro X hP hw hK hc i pins s σ H E I hf st hg
    subst hP hw hK
    obtain ⟨hz, hTI, ⟨x0, y0, hTO⟩, h1, h2⟩ := st
    obtain ⟨xs, x, c, hqx, hx, hy⟩ := hg
    obtain ⟨its, rv, p, _⟩ := I.list hqx
    obtain ⟨u, hu, ru⟩ := rv.get hx
    have hzl : z < s.heap.objs.size := Heap.lt_size hz
    refine Zs.pyNext_item D (I.ok.hd hc) hz hTI hTO h1 h2 p.isList (x := u) (by simpa using hu) hy fun h' tk u2 z' TO' h1' h2' hT hk => ?_
    refine ⟨_, rfl, wpAny_letOwnedTupleGo_zip (s := { s with heap := h', toks := tk }) z' fun h'' z'' sb => ?_⟩
    have hT2 : h''.get? s.heap.objs.size = some { cls := .type "tuple", data := .seq #[u, .str ⟨#[c]⟩ u2] } := (sb.2 _ (Nat.ne_of_gt hzl)).trans hT
    have new : ObjOk X.prog X.w (upd H s.heap.objs.size (.tup [x, .str ⟨#[c]⟩])) h'' s.heap.objs.size (.tup [x, .str ⟨#[c]⟩]) :=
      ⟨by show 2 ≤ sizeLine; decide, [u, .str ⟨#[c]⟩ u2], .cons ru (.cons ⟨_, rfl⟩ .nil), ⟨_, hT2, rfl, _, rfl⟩⟩
    have I1 : Inv X pins σ (upd H s.heap.objs.size (.tup [x, .str ⟨#[c]⟩])) { s with heap := h'', toks := tk } :=
      I.turnedNew (t' := tk) (ch := [z, TI, TO, i1, i2]) (fun c o hb q => (sb.2 c (fun q' => hb (by simp [q']))).trans (hk c (fun m => hb (Zs.sub m)) o q)) hf (Nat.le_refl _) new
    refine ⟨.ref s.heap.objs.size, _, I1, rfl, ⟨_, x, c, rfl, I.hok.fresh (Nat.le_refl _), rfl, fun l hl => by rw [I.list_inj hl hqx]; exact hx, hy⟩, ⟨z'', ?_, ⟨u, .str ⟨#[c]⟩ u2, ?_⟩, ?_, ?_⟩, fun c hcm => ?_⟩
    · exact (sb.2 _ D.TIz).trans (hk _ D.TIout _ hTI)
    · exact (sb.2 _ D.TOz).trans TO'
    · exact h1'.at fun o q => (sb.2 _ D.i1z).trans q
    · exact h2'.at fun o q => (sb.2 _ D.i2z).trans q
    · have hlt : c < s.heap.objs.size := by
        have e' : c = z ∨ c = TI ∨ c = TO ∨ c = i1 ∨ c = i2 := by simpa using hcm
        rcases e' with q | q | q | q | q
        · rw [q]; exact hzl
        · rw [q]; exact Heap.lt_size hTI
        · rw [q]; exact Heap.lt_size hTO
        · rw [q]; obtain ⟨_, e1, _⟩ := h1; exact Heap.lt_size e1
        · rw [q]; obtain ⟨_, e2, _⟩ := h2; exact Heap.lt_size e2
      rw [upd_ne (Nat.ne_of_lt hlt)]
      exact (hf c hcm).1
  done := by
    intro X hP hw hK hc i pins s σ H E I hf st hg
    subst hP hw hK
    obtain ⟨hz, hTI, ⟨x0, y0, hTO⟩, h1, h2⟩ := st
    obtain ⟨xs, hqx, hend⟩ := hg
    obtain ⟨its, rv, p, _⟩ := I.list hqx
    have l1 := rv.length
    have he : its.toArray[i]? = none ∨ y.cps[i]? = none := by
      rcases hend with q | q
      · exact .inl (by simp; omega)
      · exact .inr (Array.getElem?_eq_none q)
    exact Zs.pyNext_end D (I.ok.hd hc) hz hTI hTO h1 h2 p.isList he fun h' tk hk => ⟨rfl, I.turnedL (t' := tk) (ch := [z, TI, TO, i1, i2]) (fun c o hb q => hk c (fun m => hb (Zs.sub m)) o q) hf⟩
  self := fun A i s Q E st h => wpAny_pyIter_zip st.1 h
def iZipS (K : PySem.W.Frag) (ta : TA) : TI := fun σ H R => ta σ H fun vs H1 => ∃ a y xs, vs = [.ref a, .str y] ∧ SqL K H1 a xs ∧ y.cps.all (· < 128) = true ∧ R (Itzs K a y) H1
theorem pi_zipS {X : Cx} {e e2 : Expr} {ta : TA} {p pos tpos : Pos} {elts : List Expr} {kk : Nat} (hg : Gl X "zip") (hm : X.mg "zip" = none) (ha : PA X [e, e2] ta)
    (hs : starEach [e, e2] X.env = (false, eval e X.env) :: starEach [e2] X.env := by rfl) (hpl : (backTo pos (starEach [e2] X.env)).any (·.1) = false := by rfl) :
    PI X (.Tuple elts kk tpos) (.Call (.Name "zip" p) [e, e2] [] pos) (iZipS X.K ta) := by
  intro pins s σ H R I h
  refine Call_ (ld_blt I hg hm boot_zip5 (PyProof.Rows.callWith_type1 (thn (ha pos pins s σ H _ I h) fun us s1 ⟨vs, H1, I1, r1, q1⟩ => ?_) hs hpl))
  obtain ⟨a, y, xs, ex, hqx, hasc, q⟩ := q1
  subst ex
  cases r1 with
  | cons r rr =>
    cases rr with
    | cons r' rr =>
      cases rr
      cases r
      obtain ⟨t, rfl⟩ := r'
      obtain ⟨its, rv, p1, _⟩ := I1.list hqx
      have la : a < s1.heap.objs.size := p1.lt
      refine Zs.call_zip hasc p1.isList fun h' hz hTI hTO h1 h2 hk => wpAny_pyIter_zip hz ?_
      have I2 : Inv X pins σ H1 { s1 with heap := h' } := I1.kept (t' := s1.toks) hk
      refine ⟨s1.heap.objs.size + 4, [s1.heap.objs.size + 4, s1.heap.objs.size + 2, s1.heap.objs.size + 3, s1.heap.objs.size, s1.heap.objs.size + 1], _, _, H1, rfl, I2, turn_zipS (Zs.apart_new s1.heap.objs.size a la), ⟨hz, hTI, ⟨_, _, hTO⟩, h1, h2⟩, fun c hcm => ?_, q⟩
      have e' : c = s1.heap.objs.size + 4 ∨ c = s1.heap.objs.size + 2 ∨ c = s1.heap.objs.size + 3 ∨ c = s1.heap.objs.size ∨ c = s1.heap.objs.size + 1 := by simpa using hcm
      have hle : s1.heap.objs.size ≤ c := by
        rcases e' with z | z | z | z | z
        · rw [z]; exact Nat.le_add_right _ _
        · rw [z]; exact Nat.le_add_right _ _
        · rw [z]; exact Nat.le_add_right _ _
        · rw [z]; exact Nat.le_refl _
        · rw [z]; exact Nat.le_add_right _ _
      exact I1.fpOk hle (I1.hok.fresh hle)
/-! ### {k: v}, the key a tuple -/
def tDisp1T (tk tv : TE) : TE := fun σ H Q => ∀ p, H p = none → tk σ (upd H p (.dT [])) fun x H1 => tv σ H1 fun y H2 => H2 p = some (.dT []) ∧ ∃ (ks : List Key) (b : Addr), x = .ref b ∧ H2 b = some (.tup (ks.map kV)) ∧ Q (.ref p) (upd H2 p (.dT [(ks, y)]))
theorem pe_disp1T {X : Cx} {k v : Expr} {pos : Pos} {tk tv : TE} (hu : X.A.units + 1 < cLine) (hk : PE X k tk) (hv : PE X v tv) : PE X (.Dict [some k] [v] pos) (tDisp1T tk tv) := by
  intro pins s σ H Q I q
  have hn := I.hok.fresh (Nat.le_refl s.heap.objs.size)
  have I1 := I.laid (a := s.heap.objs.size) (o := .dT []) (h' := s.heap.push { cls := .type "dict", data := .dict #[] }) (t' := s.toks) (fun _ _ q => Heap.get?_push_of_some _ q) (Nat.le_refl _) (dt_empty s.heap I.big)
  refine wpAny_Dict_any rfl rfl (by simp) (by show 1 ≤ 15; decide) (pairTrees_cons_walk (thn (hk pins _ σ _ _ I1 (q _ hn)) fun u s1 ⟨x, H1, I1', rx, q1⟩ => thn (hv pins s1 σ H1 _ I1' q1) fun w2 s2 ⟨y, H2, I2, ry, e, ks, b, ex, eb, q2⟩ => pairTrees_nil_walk ?_))
  subst ex
  obtain rfl : u = Value.ref b := rx
  obtain ⟨z, hd, xs, rel, dd⟩ := dt_of I2.hok e
  cases rel
  unfold storeAll
  rw [List.forIn_cons]
  refine wpAny_bind (wpAny_bind (wpAny_dictSet_heap (hsz := Nat.zero_le _) (knd := tupleKind (mixKind X.prog X.w)) (show X.A.units < cLine by omega) (key_of I2.hok eb) dd fun h' dd' hs => wpAny_pure ?_))
  refine wpAny_pure ?_
  obtain ⟨o', es, ep, hq, h2, h3, h4, _, h5⟩ := dd'
  refine ⟨.ref s.heap.objs.size, _, d_write I2 (ob := .dT [(ks, y)]) (by rw [e]; exact True.intro) hs ⟨o', hq⟩ ⟨(by show 1 ≤ sizeLine; decide), hd, _, .cons ⟨rfl, ?_, ry⟩ .nil, o', es, ep, hq, h2, h3, h4, h5⟩, rfl, q2⟩
  rw [upd_ne (ne_of eb e (fun z => nomatch z))]
  exact eb
/-! ### d.get(k) of a dict that the top has written, its keys texts -/
structure KDict (w : World) (K : PySem.W.Frag) (a : Addr) (f : Str → Option V) : Prop where
  ex : ∃ (es : Array DictEntry) (n : Nat), K.lookup a = some ⟨.type "dict", none, .dict es n, #[]⟩ ∧ PySem.W.KeysLit w.params es.toList ∧ ∀ x, RelO (f x) (findBy Value.isStrOf es x)
  low : (a == sysModules) = false
def tKGet1 (w : World) (K : PySem.W.Frag) (td ty : TE) : TE := fun σ H Q => td σ H fun x H1 => ∃ a f, x = .ref a ∧ KDict w K a f ∧ ty σ H1 fun y H2 => ∃ k, y = .str k ∧ Q ((f k).getD .non) H2
theorem pe_kget1 {X : Cx} {o e : Expr} {apos cpos : Pos} {td ty : TE} (ho : PE X o td) (he : PE X e ty) (m : M1 X o "get" apos e cpos) : PE X (.Call (.Attribute o "get" apos) [e] [] cpos) (tKGet1 X.w X.K td ty) := by
  intro pins s σ H Q I h
  refine wpAny_Call_method m.base m.few m.line PySem.F.plainAttrs_dict PySem.F.slot_dict_get PySem.F.type_dict_get (thn (ho pins s σ H _ I h) fun u s1 ⟨x, H1, I1, rx, a, f, ex, d, q1⟩ => ?_)
  subst ex
  obtain rfl : u = Value.ref a := rx
  obtain ⟨es, n, hl, hk, hf⟩ := d.ex
  have hm := PySem.W.mapOf_K (prog := X.prog) (w := X.w) I1.kIn hl hk
  refine ⟨hm.typeIs, fun b q => ?_, ?_⟩
  · cases q
    exact ⟨_, I1.kIn _ _ hl, rfl⟩
  rw [m.trees]
  refine Calls.callWith_builtin rfl (Calls.evalArgs_plain (Calls.spliced_cons (thn (he pins s1 σ H1 _ I1 q1) fun iv s2 ⟨y, H2, I2, ry, k, ey, q2⟩ => Calls.spliced_nil ?_)))
  subst ey
  obtain ⟨t, rfl⟩ := (show ∃ t, iv = Value.str k t from ry)
  have hm2 := PySem.W.mapOf_K (prog := X.prog) (w := X.w) I2.kIn hl hk
  refine call_meetsIn PySem.F.slot_dict_get hm2.typeIs PySem.F.entry_dict_get (PySem.F.args_dict_get_2 _ _) (meets_dict_get (strKind X.prog X.w) a (strKind_is X.prog X.w k t) d.low) ⟨_, hm2, ?_⟩
  exact ⟨_, H2, I2.tok _, RelO.getD (d := V.non) (hf k) rfl, q2⟩
/-- the dict's pairs, written out -/
theorem find_pairs {x : Str} : ∀ {ps : List (Str × Str)} {es : List DictEntry}, Paired (fun (p : Str × Str) (e : DictEntry) => ∃ t u, e.key = .str p.1 t ∧ e.val = .str p.2 u) ps es → RelO ((ps.lookup x).map V.str) ((es.find? fun e => Value.isStrOf x e.key).map (·.val))
  | _, _, .nil => True.intro
  | _, _, @Paired.cons _ _ _ p e ps es ⟨t, u, h1, h2⟩ r => by
    have ih := find_pairs (x := x) r
    rw [List.lookup_cons, List.find?_cons, h1]
    by_cases q : x = p.1
    · subst q
      have e1 : Value.isStrOf p.1 (.str p.1 t) = true := by simp [Value.isStrOf]
      rw [e1]
      simp only [beq_self_eq_true, Option.map_some]
      exact ⟨u, h2⟩
    · have e1 : Value.isStrOf x (.str p.1 t) = false := by
        cases z : Value.isStrOf x (.str p.1 t) with
        | false => rfl
        | true =>
          exfalso
          simp [Value.isStrOf] at z
          first
            | exact q z
            | exact q z.symm
      have e2 : (x == p.1) = false := by simpa using q
      rw [e1, e2]
      exact ih
end L2
end

section
set_option Elab.async false
set_option linter.all false
set_option maxRecDepth 100000
set_option maxHeartbeats 2000000
namespace L2
open PySem PySem.Spec PyProof.Rows
/-! ### a lambda of one parameter that keeps one name of the def around it -/
def lamCx (P : Program) (w : World) (K : PySem.W.Frag) (mg : Str → Option Value) (base : Heap) (N : List Str) (qual : Str) (scope : Scope) (f : Addr) (cd : Value) (cl : List (Str × Addr)) (A : Around) (outer : List Env) (s : Shared) (H : Hp) : Cx where
  prog := P
  w := w
  K := K
  mg := mg
  base := base
  A := A.deeper (PySem.W.envX qual scope s.heap.objs.size f cd cl)
  N := N
  s_0 := s
  H_0 := H
  env := PySem.W.envX qual scope s.heap.objs.size f cd cl
  outer := outer
  stack := PySem.W.envX qual scope s.heap.objs.size f cd cl :: outer
  ex := []
  calm := true
  fn := fun _ => false
  pn := []
  xe := fun _ _ => False
theorem look1 {y z : Str} {c d : Addr} (h : ([(y, c)] : List (Str × Addr)).lookup z = some d) : z = y ∧ d = c := by
  rw [List.lookup_cons] at h
  cases e : z == y with
  | true => rw [e] at h; exact ⟨eq_of_beq e, (Option.some.inj h).symm⟩
  | false => rw [e] at h; cases h
theorem inv_lam {P : Program} {w : World} {K : PySem.W.Frag} {mg : Str → Option Value} {base : Heap} {x y : Str} {qual : Str} {scope : Scope} {f : Addr} {cd : Value} {c : Addr} {A : Around} {outer : List Env} {s : Shared} {H : Hp} {h1 : Heap} {tk : Nat} {ux uy : Value} {vx vy : V}
    (hk : scope.kind = .function) (hx : scope.names.lookup x = some .local) (hy : scope.names.lookup y = some .free) (hno : ∀ z ∈ scope.names, z.2 ≠ .cell) (hfr : ∀ z, scope.names.lookup z = some .free → z = y)
    (hd : A.handled = none) (e0 : Env0 P w K mg base A outer s H) (rx : RelV vx ux) (ry : RelV vy uy) (hc : s.heap.IsCell c (some uy)) (hcn : H c = none)
    (hns : h1.Ns s.heap.objs.size (fun z => [(x, ux)].reverse.lookup z)) (hk1 : ∀ b o, s.heap.get? b = some o → h1.get? b = some o) :
    Inv (lamCx P w K mg base [x, y] qual scope f cd [(y, c)] A outer s H) [] [some vx, some vy] H { s with heap := h1, toks := tk } := by
  have noA : ∀ b : Addr, b ∉ (lamCx P w K mg base [x, y] qual scope f cd [(y, c)] A outer s H).ex := fun b z => absurd (show b ∈ ([] : List Addr) from z) (by simp)
  have cellK : h1.IsCell c (some uy) := by
    obtain ⟨o, e, d⟩ := hc
    exact ⟨o, hk1 _ _ e, d⟩
  refine ⟨⟨e0.mod, hk, rfl, rfl, Nat.le_refl _, fun a b d q1 q2 => ?_, fun z hz => ?_, fun z d q _ => ?_, fun _ => hd, Around.frames_deeper e0.frames, .inr ⟨rfl, rfl⟩, fun b z => absurd z (noA b), e0.bs, e0.bsz, fun b _ _ => noA b, fun b z => absurd z (noA b), e0.funs, e0.frf⟩,
    rfl, e0.bare, Un.kept hk1, ⟨_, hns, fun i z v q1 q2 q3 => ?_⟩, fun z d q => ?_, e0.hok.fresh (Nat.le_refl _), fun z d q => ?_, fun p hp => absurd (show p ∈ ([] : List (Addr × Obj)) from hp) (by simp), e0.hok.kept hk1, rfl⟩
  · exact (look1 q1).1.trans (look1 q2).1.symm
  · have hz : scope.names.lookup z = some .cell ∨ scope.names.lookup z = some .free := hz
    rcases hz with q | q
    · exact absurd rfl (hno _ (PySem.mem_of_lookup q))
    · rw [hfr z q]
      exact ⟨c, by show ([(y, c)] : List (Str × Addr)).lookup y = _; rw [List.lookup_cons, beq_self_eq_true]⟩
  · exact absurd (show (false : Bool) = true from q) Bool.false_ne_true
  · match i, q1, q2 with
    | 0, q1, q2 =>
      have e1 : x = z := Option.some.inj q1
      have e2 : vx = v := Option.some.inj (Option.some.inj q2)
      subst e1 e2
      refine ⟨ux, rx, .inl ⟨hx, ?_⟩⟩
      show ([(x, ux)] : List (Str × Value)).lookup x = _
      rw [List.lookup_cons, beq_self_eq_true]
    | 1, q1, q2 =>
      have e1 : y = z := Option.some.inj q1
      have e2 : vy = v := Option.some.inj (Option.some.inj q2)
      subst e1 e2
      exact ⟨uy, ry, .inr ⟨.inr hy, c, by show ([(y, c)] : List (Str × Addr)).lookup y = _; rw [List.lookup_cons, beq_self_eq_true], cellK⟩⟩
    | i + 2, q1, q2 => simp [lamCx] at q1
  · rw [(look1 q).2]
    exact ⟨_, cellK⟩
  · rw [(look1 q).2]
    exact hcn
theorem lam_call {P : Program} {w : World} {K : PySem.W.Frag} {mg : Str → Option Value} {base : Heap} {x y name qual : Str} {params : Arguments} {body : Expr} {scope : Scope} {pm ctv : Value} {f c c' : Addr} {A : Around} {outer : List Env} {s : Shared} {H : Hp} {ux uy : Value} {vx vy : V} {Q : VK} {t : TE}
    (hk : scope.kind = .function) (hco : scope.isCoroutine = false) (hgen : scope.isGenerator = false) (hx : scope.names.lookup x = some .local) (hy : scope.names.lookup y = some .free) (hno : ∀ z ∈ scope.names, z.2 ≠ .cell) (hfr : ∀ z, scope.names.lookup z = some .free → z = y)
    (hd : A.handled = none) (hroom : A.depth < recursionLimit) (e0 : Env0 P w K mg base A outer s H)
    (ho : s.heap.get? f = some (PySem.W.kla_obj name qual params body scope [(y, c)] pm c' ctv)) (hcd : s.heap.CodeRec (.ref c') qual)
    (hbind : bindArgs (PySem.W.kla_fn name qual params body scope [(y, c)] pm (.ref c') ctv) ⟨[ux], []⟩ = pure [(x, ux)])
    (rx : RelV vx ux) (ry : RelV vy uy) (hc : s.heap.IsCell c (some uy)) (hcn : H c = none)
    (hb : PE (lamCx P w K mg base [x, y] qual scope f (.ref c') [(y, c)] A outer s H) body t) (ht : t [some vx, some vy] H Q) :
    codeAny (model P w) A (.call (.ref f) ⟨[ux], []⟩) (CR CX0 outer P w H s Q E0) s := by
  have lim : s.heap.NoLimit := e0.mod.nolimit.keeps fun b o e => (e0.bs b o e).1
  refine PySem.W.kla_callFunE hroom ho rfl hco hgen rfl hcd ?_
  rw [hbind]
  refine wpAny_pure (wpAny_newFunctionEnv hno (fun z hz => ?_) (fun h1 hns hsb => ?_) hk)
  · rw [List.mem_singleton.mp hz]
    exact hx
  have hk1 : ∀ b o, s.heap.get? b = some o → h1.get? b = some o := fun b o e => hsb.extBut b o (Nat.ne_of_lt (Heap.lt_size e)) (Heap.get?_push_of_some _ e)
  refine ⟨lim.keeps hk1, ?_⟩
  show codeAny _ _ (.expr body (PySem.W.envX qual scope s.heap.objs.size f (.ref c') [(y, c)])) _ _
  have I := inv_lam (qual := qual) (f := f) (cd := .ref c') (tk := s.toks + 1) hk hx hy hno hfr hd e0 rx ry hc hcn hns hk1
  refine PySem.W.kla_codeExpr (wpAny_mono (hb [] _ _ H Q I ht) (fun u s' ⟨v, H', J, rv, q⟩ => ?_) fun _ _ z => False.elim z)
  exact ⟨v, H', J.os, J.bare, J.base, J.hok, rv, q⟩
end L2
end

section
set_option Elab.async false
set_option linter.all false
set_option maxRecDepth 100000
set_option maxHeartbeats 4000000
namespace L2
open PySem PySem.Spec PyProof.Rows
/-! ### max(a tuple, key = a function): the first of the greatest -/
/-- the list that max keeps: empty, or the best item so far and its key -/
def Kept (vs : List V) (kf : Nat → Int) (h : Heap) (S : Addr) : Option Nat → Prop
  | none => ∃ c, h.get? S = some (seqObj "list" #[] c)
  | some i => ∃ vb tb c x, h.get? S = some (seqObj "list" #[vb, .int (kf i) tb] c) ∧ vs[i]? = some x ∧ RelV x vb
/-- the best of the first n -/
def BestOf (kf : Nat → Int) (n : Nat) : Option Nat → Prop
  | none => n = 0
  | some i => i < n ∧ ∀ j, j < n → kf j ≤ kf i ∧ (j < i → kf j < kf i)
theorem best_new {kf : Nat → Int} {n : Nat} {b : Option Nat} (h : BestOf kf n b) (more : ∀ i, b = some i → kf i < kf n) : BestOf kf (n + 1) (some n) := by
  refine ⟨Nat.lt_succ_self n, fun j hj => ?_⟩
  cases b with
  | none =>
    have z : n = 0 := h
    have : j = n := by omega
    subst this
    exact ⟨Int.le_refl _, fun q => absurd q (Nat.lt_irrefl _)⟩
  | some i =>
    have m := more i rfl
    by_cases q : j = n
    · subst q
      exact ⟨Int.le_refl _, fun q => absurd q (Nat.lt_irrefl _)⟩
    · have := (h.2 j (by omega)).1
      refine ⟨?_, fun _ => ?_⟩ <;> omega
theorem best_old {kf : Nat → Int} {n i : Nat} (h : BestOf kf n (some i)) (less : ¬ kf i < kf n) : BestOf kf (n + 1) (some i) := by
  refine ⟨Nat.lt_succ_of_lt h.1, fun j hj => ?_⟩
  by_cases q : j = n
  · subst q
    exact ⟨by omega, fun z => absurd z (by have := h.1; omega)⟩
  · exact h.2 j (by omega)
section
variable {X : Cx} {σ : St} {a I q S : Addr} {vs : List V} {kf : Nat → Int} {W : Hp → Prop} {pins : List (Addr × Obj)} {R : Result → Shared → Prop}
/-- what holds between two turns: n items are taken -/
structure Between (X : Cx) (σ : St) (a I S : Addr) (vs : List V) (kf : Nat → Int) (W : Hp → Prop) (pins : List (Addr × Obj)) (n : Nat) (b : Option Nat) (s : Shared) (H : Hp) : Prop where
  inv : Inv X pins σ H s
  w : W H
  fi : FpOk X pins H I
  fs : FpOk X pins H S
  kept : Kept vs kf s.heap S b
  best : BestOf kf n b
  it : s.heap.IsTupleIter I a n
theorem put_kept {s : Shared} {xs ys : Array Value} {c : Nat} (g : s.heap.get? S = some (seqObj "list" xs c)) : ∃ c', (s.heap.update S (Obj.mapSeq fun _ => ys)).get? S = some (seqObj "list" ys c') := ⟨_, get?_update_seq g fun _ => ys⟩
theorem Between.write {n m : Nat} {b b' : Option Nat} {s : Shared} {H : Hp} {f : Array Value → Array Value} (B : Between X σ a I S vs kf W pins n b s H) (ne : I ≠ S) (k : Kept vs kf (s.heap.update S (Obj.mapSeq f)) S b') (m' : BestOf kf m b') (e : n = m) : Between X σ a I S vs kf W pins m b' { s with heap := s.heap.update S (Obj.mapSeq f) } H := by
  subst e
  have sb := Heap.SameBut.update s.heap S (Obj.mapSeq f)
  obtain ⟨g0, g1, _, g3, g4, g5⟩ := B.fs
  obtain ⟨ob, g, c, d⟩ := B.it
  exact ⟨B.inv.turned (t' := s.toks) (fun x o hx z => (sb.2 x hx).trans z) g0 g1 g3 g4 g5, B.w, B.fi, B.fs, k, m', ⟨ob, (sb.2 I ne).trans g, c, d⟩⟩
theorem max_walk (calm : X.calm = true) (seq : ∀ H, W H → SqT X.K H a vs) (some0 : 0 < vs.length) (ne : I ≠ S)
    (turn : ∀ (i : Nat) (x : V), vs[i]? = some x → ∀ (pins' : List (Addr × Obj)) (s : Shared) (H : Hp) (u : Value), Inv X pins' σ H s → (∀ p ∈ pins, p ∈ pins') → W H → RelV x u →
      wpAny (model X.prog X.w) X.A.in1 (call (.ref q) [u]) (EP X pins' σ fun v H' => v = .int (kf i) ∧ W H') (fun _ _ => False) s)
    (fin : ∀ (i : Nat) (x : V) (s : Shared) (H : Hp) (u : Value), vs[i]? = some x → (∀ j, j < vs.length → kf j ≤ kf i ∧ (j < i → kf j < kf i)) → Inv X pins σ H s → W H → RelV x u → R (.ok (.ret u)) s) :
    ∀ (r n : Nat) (b : Option Nat) (s : Shared) (H : Hp), n + r = vs.length → Between X σ a I S vs kf W pins n b s H → codeAny (model X.prog X.w) X.A (.builtin "max.loop" ⟨[.ref I, .ref q, .ref S], []⟩) R s := by
  intro r
  induction r with
  | zero =>
    intro n b s H hn B
    obtain ⟨its, rv, p, _⟩ := B.inv.tuple (seq H B.w)
    cases b with
    | none => exact absurd (show n = 0 from B.best) (by omega)
    | some i =>
      obtain ⟨vb, tb, c, x, g, hx, rb⟩ := B.kept
      apply codeAny_builtin PySem.F.entry_max_loop
      simp only [Around.under_plainId PySem.F.plain_max_loop]
      change wpAny _ _ (seqItems? (.ref S) >>= _) _ _ _
      apply wpAny_bind
      apply wpAny_seqItems g rfl
      change wpAny _ _ (tryCatch (pyNext (.ref I)) _ >>= _) _ _ _
      apply wpAny_bind
      apply wpAny_tryCatch
      apply wpAny_pyNext_tuple_end (A := X.A.in1) (show X.A.in1.handled = none from B.inv.ok.hd calm) B.it p (by have := rv.length; simp; omega)
      intro h' eb
      obtain ⟨f0, f1, _, f3, f4, f5⟩ := B.fi
      have J1 : Inv X pins σ H { s with heap := h' } := B.inv.turned (t' := s.toks) (fun x o hx e => eb x o hx e) f0 f1 f3 f4 f5
      have g1 := eb S _ (Ne.symm ne) g
      have sb := Heap.SameBut.update h' S (Obj.mapSeq fun _ => (#[] : Array Value))
      obtain ⟨g0, gg1, _, g3, g4, g5⟩ := B.fs
      change wpAny _ _ (updateSeq S (fun _ => #[]) >>= _) _ _ _
      apply wpAny_bind
      apply wpAny_updateSeq g1 rfl
      apply wpAny_bind
      apply wpAny_letGo
      apply wpAny_pure
      exact fin i x _ H vb hx (fun j hj => B.best.2 j (by omega)) (J1.turned (t' := s.toks) (fun x o hx e => (sb.2 x hx).trans e) g0 gg1 g3 g4 g5) B.w rb
  | succ r ih =>
    intro n b s H hn B
    obtain ⟨its, rv, p, _⟩ := B.inv.tuple (seq H B.w)
    obtain ⟨y, hy⟩ : ∃ y, vs[n]? = some y := ⟨_, List.getElem?_eq_getElem (by omega)⟩
    obtain ⟨u, hu, ru⟩ := rv.get hy
    have again : ∀ {b' : Option Nat} {t : Shared} {H' : Hp}, Between X σ a I S vs kf W pins (n + 1) b' t H' → (Code.builtin "max.loop" ⟨[.ref I, .ref q, .ref S], []⟩).quiet = true ∧ codeAny (model X.prog X.w) X.A (.builtin "max.loop" ⟨[.ref I, .ref q, .ref S], []⟩) R t :=
      fun B' => ⟨plainId_quiet PySem.F.plain_max_loop _, ih (n + 1) _ _ _ (by omega) B'⟩
    obtain ⟨box, c, g⟩ : ∃ box c, s.heap.get? S = some (seqObj "list" box c) := by
      cases b with
      | none => obtain ⟨c, g⟩ := B.kept; exact ⟨_, c, g⟩
      | some i => obtain ⟨_, _, c, _, g, _⟩ := B.kept; exact ⟨_, c, g⟩
    apply codeAny_builtin PySem.F.entry_max_loop
    simp only [Around.under_plainId PySem.F.plain_max_loop]
    change wpAny _ _ (seqItems? (.ref S) >>= _) _ _ _
    apply wpAny_bind
    apply wpAny_seqItems g rfl
    change wpAny _ _ (tryCatch (pyNext (.ref I)) _ >>= _) _ _ _
    apply wpAny_bind
    apply wpAny_tryCatch
    apply wpAny_pyNext_tuple_item (A := X.A.in1) B.it p (x := u) (by simpa using hu)
    intro h' it' sb
    obtain ⟨f0, f1, _, f3, f4, f5⟩ := B.fi
    have J1 : Inv X pins σ H { s with heap := h' } := B.inv.turned (t' := s.toks) (fun x o hx e => (sb.2 x hx).trans e) f0 f1 f3 f4 f5
    have g1 : h'.get? S = some (seqObj "list" box c) := (sb.2 S (Ne.symm ne)).trans g
    obtain ⟨oI, gI, cI, dI⟩ := it'
    have two : ∀ z, z ∈ [I, S] → z = I ∨ z = S := fun z hz => by simpa using hz
    have J2 := J1.pinned (fp := [I, S]) (fun z hz => (two z hz).elim (fun e => e ▸ B.fi) fun e => e ▸ B.fs)
      fun z hz => (two z hz).elim (fun e => ⟨oI, e ▸ gI, fun v d => by rw [dI] at d; cases d⟩) fun e => ⟨seqObj "list" box c, e ▸ g1, fun v d => by cases d⟩
    change wpAny _ _ (tryCatch (holding [u] (call (.ref q) [u])) _ >>= _) _ _ _
    apply wpAny_bind
    apply wpAny_tryCatch
    apply wpAny_holding
    apply wpAny_mono (turn n y hy _ _ H u J2 (fun p hp => List.mem_append_left _ hp) B.w ru) _ fun _ _ z => z.elim
    rintro v2 s2 ⟨vv, H2, J3, rv2, rfl, w2⟩
    obtain ⟨t2, rfl⟩ := (show ∃ t, v2 = Value.int (kf n) t from rv2)
    have pinned : ∀ z o, z ∈ [I, S] → h'.get? z = some o → s2.heap.get? z = some o ∧ H2 z = none := fun z o hz e =>
      let q := J3.pin (z, o) (List.mem_append_right _ (List.mem_append_right _ (mem_pinsAt (fp := [I, S]) hz e))); ⟨q.1, q.2.1⟩
    obtain ⟨pS, nS⟩ := pinned S _ (by simp) g1
    obtain ⟨pI, nI⟩ := pinned I _ (by simp) gI
    have base : Inv X pins σ H2 s2 := J3.unpinned
    have fI2 : FpOk X pins H2 I := ⟨nI, B.fi.2⟩
    have fS2 : FpOk X pins H2 S := ⟨nS, B.fs.2⟩
    have it2 : s2.heap.IsTupleIter I a (n + 1) := ⟨oI, pI, cI, dI⟩
    have store : (∀ i, b = some i → kf i < kf n) → ∀ tk : Nat, Between X σ a I S vs kf W pins (n + 1) (some n) { s2 with heap := s2.heap.update S (Obj.mapSeq fun _ => #[u, .int (kf n) t2]) } H2 := by
      intro more _
      have sb2 := Heap.SameBut.update s2.heap S (Obj.mapSeq fun _ => (#[u, .int (kf n) t2] : Array Value))
      obtain ⟨c', k'⟩ := put_kept (s := s2) (ys := #[u, .int (kf n) t2]) pS
      exact ⟨base.turned (t' := s2.toks) (fun x o hx e => (sb2.2 x hx).trans e) fS2.1 fS2.2.1 fS2.2.2.2.1 fS2.2.2.2.2.1 fS2.2.2.2.2.2, w2, fI2, fS2, ⟨u, t2, c', y, k', hy, ru⟩, best_new B.best more, ⟨oI, (sb2.2 I ne).trans pI, cI, dI⟩⟩
    cases b with
    | none =>
      obtain ⟨c0, g0⟩ := B.kept
      rw [g] at g0
      obtain ⟨rfl, rfl⟩ : box = #[] ∧ c = c0 := by injection g0 with e; injection e with _ _ e3; injection e3 with e4 e5; exact ⟨e4, e5⟩
      change wpAny _ _ (updateSeq S (fun _ => #[u, .int (kf n) t2]) >>= _) _ _ _
      apply wpAny_bind
      apply wpAny_updateSeq pS rfl
      apply wpAny_pure
      exact again (store (fun i e => by cases e) 0)
    | some i =>
      obtain ⟨vb, tb, c0, x, g0, hx, rb⟩ := B.kept
      rw [g] at g0
      obtain ⟨rfl, rfl⟩ : box = #[vb, .int (kf i) tb] ∧ c = c0 := by injection g0 with e; injection e with _ _ e3; injection e3 with e4 e5; exact ⟨e4, e5⟩
      change wpAny _ _ (tryCatch (holding [u, .int (kf n) t2] (richCompare .Gt (.int (kf n) t2) (.int (kf i) tb) >>= _)) _ >>= _) _ _ _
      apply wpAny_bind
      apply wpAny_tryCatch
      apply wpAny_holding
      apply wpAny_bind
      apply CmpOf.ints_gt (prog := X.prog) (w := X.w) (A := X.A.in1) (P := fun i v => ∃ t, v = .int (kf i) t) kf (fun i v h => h) n i _ _ _ _ _ ⟨t2, rfl⟩ ⟨tb, rfl⟩
      apply wpAny_bind
      apply wpAny_holding
      apply wpAny_truthy_bool
      apply wpAny_bind
      apply wpAny_letGo
      apply wpAny_pure
      by_cases up : kf i < kf n
      · rw [if_pos (by simpa using up)]
        apply wpAny_bind
        apply wpAny_updateSeq pS rfl
        apply wpAny_bind
        apply wpAny_letGo
        exact wpAny_pure (again (store (fun j e => by cases e; exact up) 0))
      · rw [if_neg (by simpa using up)]
        apply wpAny_bind
        apply wpAny_letGo
        exact wpAny_pure (again (b' := some i) ⟨base, w2, fI2, fS2, ⟨vb, tb, c, x, pS, hx, rb⟩, best_old B.best up, it2⟩)
theorem call_maxKey {s : Shared} {H : Hp} {Q : VK} (kf : Nat → Int) (W : Hp → Prop) (calm : X.calm = true) (seq : ∀ H, W H → SqT X.K H a vs) (some0 : 0 < vs.length)
    (turn : ∀ (i : Nat) (x : V), vs[i]? = some x → ∀ (pins' : List (Addr × Obj)) (s : Shared) (H : Hp) (u : Value), Inv X pins' σ H s → (∀ p ∈ pins, p ∈ pins') → W H → RelV x u →
      wpAny (model X.prog X.w) X.A.in1 (call (.ref q) [u]) (EP X pins' σ fun v H' => v = .int (kf i) ∧ W H') (fun _ _ => False) s)
    (J : Inv X pins σ H s) (w : W H) (go : ∀ i x H', vs[i]? = some x → (∀ j, j < vs.length → kf j ≤ kf i ∧ (j < i → kf j < kf i)) → W H' → Q x H') :
    wpAny (model X.prog X.w) X.A (call (.builtin "max") [.ref a] [(Str.ofString "key", .ref q)]) (EP X pins σ Q) X.xe s := by
  obtain ⟨its, rv, p, _⟩ := J.tuple (seq H w)
  apply kmk_tree PySem.F.kind_max PySem.F.plain_max PySem.F.entry_max (kmk_max_key _ _)
  change wpAny _ _ (Builtin.Builtins.bindParams "max" ["key", "default"] 0 ⟨[], [(Str.ofString "key", .ref q)]⟩ >>= _) _ _ s
  apply wpAny_bind
  apply wpAny_pure (a := [some (Value.ref q), none])
  apply wpAny_bind
  apply wpAny_pure
  apply wpAny_bind
  apply wpAny_pyIter_tuple p
  apply wpAny_bind
  apply wpAny_newList _ (Nat.zero_le _)
  obtain ⟨it, hit⟩ : ∃ it : Obj, it = { cls := .type "tuple_iterator", data := .fields #[.ref a, .int 0 0] } := ⟨_, rfl⟩
  obtain ⟨li, hli⟩ : ∃ li : Obj, li = { cls := .type "list", data := .seq #[] } := ⟨_, rfl⟩
  rw [← hit, ← hli]
  have next : (s.heap.push it).objs.size = s.heap.objs.size + 1 := size_push' ..
  have apart : s.heap.objs.size ≠ (s.heap.push it).objs.size := by rw [next]; omega
  have old : ∀ x o, s.heap.get? x = some o → ((s.heap.push it).push li).get? x = some o := fun x o e => Heap.get?_push_of_some _ (Heap.get?_push_of_some _ e)
  have free : ∀ n, s.heap.objs.size ≤ n → FpOk X pins H n := fun n hn => J.fpOk hn (J.hok.fresh hn)
  have first : Between X σ a s.heap.objs.size (s.heap.push it).objs.size vs kf W pins 0 none { s with heap := (s.heap.push it).push li } H :=
    ⟨J.kept (t' := s.toks) old, w, free _ (Nat.le_refl _), free _ (by rw [next]; omega), ⟨0, by rw [hli]; exact Heap.get?_push_size _ rfl⟩, rfl, ⟨it, Heap.get?_push_of_some _ (Heap.get?_push_size _ (by rw [hit]; rfl)), by rw [hit], by rw [hit]; rfl⟩⟩
  exact wpAny_pure ⟨plainId_quiet PySem.F.plain_max_loop _, max_walk calm seq some0 apart turn (fun i x t H' u hx hb J' w' ru => ⟨x, H', J', ru, go i x H' hx hb w'⟩) vs.length 0 none _ H (Nat.zero_add _) first⟩
end
end L2
end

section
set_option Elab.async false
set_option linter.all false
set_option maxRecDepth 100000
set_option maxHeartbeats 2000000
namespace L2
open PySem PySem.Spec PyProof.Rows
/-! ### the table of a def's code, in which its lambda's code is kept -/
def TabAt (P : Addr) (lp : Pos) (lq : Str) (H : Hp) : Prop := ∃ ps, H P = some (.tbl ps) ∧ (ps = #[] ∨ ∃ c, ps = #[rawInt lp.line, rawInt lp.col, .ref c] ∧ H c = some (.ext fun h => h.CodeRec (.ref c) lq))
def NoTbl : HO → Prop
  | .tbl _ => False
  | _ => True
/-- all that was tracked is as it was, tables aside -/
def SameT (H H' : Hp) : Prop := ∀ b o, H b = some o → NoTbl o → H' b = some o
theorem Same.t {H H' : Hp} (h : Same H H') : SameT H H' := fun b o e _ => h b o e
theorem SameT.trans {H H1 H2 : Hp} (a : SameT H H1) (b : SameT H1 H2) : SameT H H2 := fun c o e n => b c o (a c o e n) n
theorem Same.tab {P : Addr} {lp : Pos} {lq : Str} {H H' : Hp} (h : Same H H') (t : TabAt P lp lq H) : TabAt P lp lq H' := by
  obtain ⟨ps, e, r⟩ := t
  refine ⟨ps, h _ _ e, ?_⟩
  rcases r with r | ⟨c, r1, r2⟩
  · exact .inl r
  · exact .inr ⟨c, r1, h _ _ r2⟩
theorem Same.seqT {K : PySem.W.Frag} {H H' : Hp} {a : Addr} {xs : List V} (e : Same H H') (h : SqT K H a xs) : SqT K H' a xs := by
  rcases h with (h | ⟨o, h⟩) | h
  · exact .inl (.inl (e _ _ h))
  · exact .inl (.inr ⟨o, e _ _ h⟩)
  · exact .inr h
/-- the module of built-ins, as the globals name it -/
def BMod (base : Heap) (mg : Str → Option Value) : Prop := ∃ (b : Addr) (o : Obj), mg "__builtins__" = some (.ref b) ∧ b ≠ builtinsNs ∧ b ≠ mainGlobals ∧ base.get? b = some o ∧ o.cls = .type "module" ∧ o.dict = some builtinsNs ∧ o.data = .plain
structure TabK (base : Heap) (K : PySem.W.Frag) (mg : Str → Option Value) (c P : Addr) : Prop where
  hd : PySem.W.codeHdIn K c P = true
  bm : BMod base mg
section
variable {X : Cx} {pins : List (Addr × Obj)} {σ : St} {H : Hp} {s : Shared}
theorem Inv.tabled {P c' : Addr} {ps ps' more : Array Value} {φ : Heap → Prop} {h' : Heap} {t' : Nat} (I : Inv X pins σ H s) (hP : H P = some (.tbl ps)) (hx : Heap.ExtBut P s.heap h') (hps : ps' = ps ++ more)
    (htb : h'.get? P = some { cls := .none, data := .fields ps' }) (hc : s.heap.objs.size ≤ c') (n1 : φ h') (n2 : ∃ o, h'.get? c' = some o) (n3 : ∀ h1 h2 : Heap, φ h1 → (∀ o, h1.get? c' = some o → h2.get? c' = some o) → φ h2) :
    Inv X pins σ (upd (upd H P (.tbl ps')) c' (.ext φ)) { s with heap := h', toks := t' } := by
  have hn : H c' = none := I.hok.fresh hc
  have hPc : P ≠ c' := ne_of_none hP hn
  have neP : ∀ b, H b = none → b ≠ P := fun b e z => by rw [z, hP] at e; cases e
  have neC : ∀ b o, s.heap.get? b = some o → b ≠ c' := fun b o e => Nat.ne_of_lt (Nat.lt_of_lt_of_le (Heap.lt_size e) hc)
  have trk : ∀ b u, H b = some u → b ≠ P → upd (upd H P (.tbl ps')) c' (.ext φ) b = some u := fun b u e hb => by
    rw [upd_ne (ne_of_none e hn), upd_ne hb]
    exact e
  refine I.step (g' := s.gens) (d' := s.drawn) (ch := []) (fun _ z => nomatch z) (fun b o _ _ _ e n => hx b o (neP b n) e) (fun b o _ _ _ e n => ⟨o.slots, hx b o (neP b n) e⟩) (fun b o _ e n => ?_) (fun b o _ e => ?_)
    (fun b xs e => trk b _ e fun z => ?_) (fun b o u e => trk b _ e fun z => ?_) (fun b qs e => ?_) (fun m hm => ?_) (fun b u e => ?_) I.bare
  · rw [upd_ne (neC b o e), upd_ne (neP b n)]
    exact n
  · by_cases hb : b = P
    · rw [hb]; exact ⟨_, htb⟩
    · exact ⟨o, hx b o hb e⟩
  · rw [z, hP] at e; cases e
  · rw [z, hP] at e; cases e
  · by_cases hb : b = P
    · subst hb
      rw [hP] at e
      cases e
      exact ⟨more, by rw [upd_ne hPc, upd_same, hps]⟩
    · exact ⟨#[], by rw [trk b _ e hb]; simp⟩
  · obtain ⟨o, es, ep, ho, r⟩ := hm
    exact ⟨o, es, ep, hx _ o (neP _ I.free) ho, r⟩
  · by_cases hb : b = c'
    · subst hb
      rw [upd_same] at e
      cases e
      exact ⟨n1, n2, n3⟩
    · rw [upd_ne hb] at e
      by_cases hb2 : b = P
      · subst hb2
        rw [upd_same] at e
        cases e
        exact htb
      · rw [upd_ne hb2] at e
        refine (I.hok b u e).stay (fun d v hd q => hx d v (fun z => ?_) q) (fun d q => trk d _ q fun z => ?_) fun d xs q => trk d _ q fun z => ?_
        · rcases hd with hd | hd
          · exact hb2 (hd.symm.trans z)
          · rw [z, hP] at hd; cases hd
        · rw [z, hP] at q; cases q
        · rw [z, hP] at q; cases q
theorem codeRec_mono {c : Addr} {q : Str} (h1 h2 : Heap) (x : h1.CodeRec (.ref c) q) (k : ∀ o, h1.get? c = some o → h2.get? c = some o) : h2.CodeRec (.ref c) q := by
  obtain ⟨d, oc, vs, t, e, h, r⟩ := x
  cases e
  exact ⟨_, oc, vs, t, rfl, k _ h, r⟩
theorem make_lam {params : Arguments} {body : Expr} {scope : Scope} {lp : Pos} {c0 P : Addr} {clos : List (Str × Addr)} {E : Value → Shared → Prop} {Q : Value → Shared → Prop} (I : Inv X pins σ H s) (T : TabK X.base X.K X.mg c0 P) (hcode : X.env.code = .ref c0)
    (hdef : defaultsOf params X.env = ([], [])) (hcl : closureFor scope X.env = pure clos) (ht : TabAt P lp (X.env.qual ++ "<lambda>") H)
    (h : ∀ q s' H' c' pm ctv, Inv X pins σ H' s' → s'.heap.get? q = some (PySem.W.kla_obj "<lambda>" (X.env.qual ++ "<lambda>") params body scope clos pm c' ctv) → H' q = none → q ≠ X.env.locals → q ∉ X.fs →
      H' c' = some (.ext fun h => h.CodeRec (.ref c') (X.env.qual ++ "<lambda>")) → TabAt P lp (X.env.qual ++ "<lambda>") H' → SameT H H' → Q (.ref q) s') :
    wpAny (model X.prog X.w) X.A (eval (.Lambda params body scope lp) X.env) Q E s := by
  obtain ⟨bm, ob, b1, b2, b3, b4, b5, b6, b7⟩ := T.bm
  obtain ⟨ps, hP, hps⟩ := ht
  have C := PySem.W.codeHd_of_K I.kIn T.hd
  have hPh : s.heap.get? P = some (PySem.W.tabObj ps) := I.hok P _ hP
  have hgl := I.mod.glob.keeps I.bk
  have inK : ∀ b o, X.K.lookup b = some o → H b = none := fun b o e => (I.bs b o (I.mod.kin b o e)).2
  have hbP : bm ≠ P := fun z => by
    have := (I.bs _ _ b4).2
    rw [z, hP] at this; cases this
  have hgP : mainGlobals ≠ P := fun z => by
    obtain ⟨o, es, ep, e, _⟩ := I.mod.glob
    have := (I.bs _ _ e).2
    rw [z, hP] at this; cases this
  have hB : s.heap.BuiltinsAt X.mg P := ⟨bm, ob, b1, b2, b3, hbP, I.bk _ _ b4, b5, b6, b7⟩
  refine PySem.W.kla_eval hdef ?_
  rcases hps with rfl | ⟨c, rfl, hc⟩
  · refine PySem.W.kla_makeFunction (mg := X.mg) hcl I.ok.glob hgl hcode C hPh trivial rfl hgP hB fun c' ctv h' tk hx hge hlt hrec htb => ?_
    have I1 : Inv X pins σ (upd (upd H P (.tbl #[rawInt lp.line, rawInt lp.col, .ref c'])) c' (.ext fun h => h.CodeRec (.ref c') (X.env.qual ++ "<lambda>"))) { s with heap := h', toks := tk } :=
      I.tabled (ps := #[]) (more := #[rawInt lp.line, rawInt lp.col, .ref c']) hP hx (by simp) (by simpa using htb) hge hrec (by
        obtain ⟨d, oc, _, _, e, q, _⟩ := hrec
        cases e
        exact ⟨oc, q⟩) codeRec_mono
    have hq := I1.hok.fresh (a := h'.objs.size) (Nat.le_refl _)
    have I2 := I1.kept (t' := tk) (h' := h'.push (PySem.W.kla_obj "<lambda>" (X.env.qual ++ "<lambda>") params body scope clos ((X.mg "__name__").getD .none) c' ctv)) fun b o e => Heap.get?_push_of_some _ e
    refine h h'.objs.size _ _ c' _ ctv I2 (Heap.get?_push_size _ rfl) hq (Nat.ne_of_gt I1.lt) (I1.nofs (Nat.le_refl _)) upd_same ⟨_, by rw [upd_ne (ne_of_none hP (I.hok.fresh hge)), upd_same], .inr ⟨c', rfl, upd_same⟩⟩ fun b o e n => ?_
    rw [upd_ne (ne_of_none e (I.hok.fresh hge)), upd_ne fun z => ?_]
    · exact e
    · rw [z, hP] at e; cases e; exact n
  · refine PySem.W.kla_makeFunctionHit (mg := X.mg) (cv := .ref c) hcl I.ok.glob hgl hcode C hPh trivial (by simp [codeAmong, rawInt]) hB fun ctv h' tk hk hsz => ?_
    have I1 : Inv X pins σ H { s with heap := h', toks := tk } := I.kept (t' := tk) hk
    have hq := I1.hok.fresh (a := h'.objs.size) (Nat.le_refl _)
    have I2 := I1.kept (t' := tk) (h' := h'.push (PySem.W.kla_obj "<lambda>" (X.env.qual ++ "<lambda>") params body scope clos ((X.mg "__name__").getD .none) c ctv)) fun b o e => Heap.get?_push_of_some _ e
    exact h h'.objs.size _ _ c _ ctv I2 (Heap.get?_push_size _ rfl) hq (Nat.ne_of_gt I1.lt) (I1.nofs (Nat.le_refl _)) hc ⟨_, hP, .inr ⟨c, rfl, hc⟩⟩ fun b o e _ => e
end
/-! ### max(e, key = lambda x: body), the name y kept -/
def rMaxLam (K : PySem.W.Frag) (P : Addr) (lp : Pos) (lq : Str) (iy : Nat) (tb : TE) (σ : St) (Q : VK) (v : V) (H1 : Hp) : Prop := ∃ (a : Addr) (vs : List V) (kf : Nat → Int) (vy : V), v = .ref a ∧ σ[iy]? = some (some vy) ∧ 0 < vs.length ∧ TabAt P lp lq H1 ∧
  ∀ H2, SameT H1 H2 → TabAt P lp lq H2 → SqT K H2 a vs ∧ (∀ i x H, vs[i]? = some x → Same H2 H → tb [some x, some vy] H fun v H' => v = .int (kf i) ∧ Same H2 H') ∧
    ∀ i x H, vs[i]? = some x → (∀ j, j < vs.length → kf j ≤ kf i ∧ (j < i → kf j < kf i)) → Same H2 H → Q x H
def tMaxLam (K : PySem.W.Frag) (P : Addr) (lp : Pos) (lq : Str) (iy : Nat) (te tb : TE) : TE := fun σ H Q => te σ H fun v H1 => rMaxLam K P lp lq iy tb σ Q v H1
def one (R : V → Hp → Prop) : List V → Hp → Prop
  | [v], H => R v H
  | _, _ => False
theorem one_of {R : V → Hp → Prop} {vs : List V} {H : Hp} (h : one R vs H) : ∃ v, vs = [v] ∧ R v H := by
  match vs, h with
  | [v], h => exact ⟨v, rfl, h⟩
theorem boot_max5 : bootBuiltins "max" = some (.builtin "max") := by decide +kernel
theorem pe_maxLam {X : Cx} {e body : Expr} {params : Arguments} {scope : Scope} {lp kp p pos : Pos} {te tb : TE} {x y : Str} {iy : Nat} {c0 P : Addr}
    (hcalm : X.calm = true) (hr : X.A.depth < recursionLimit) (hg : Gl X "max") (hm : X.mg "max" = none) (T : TabK X.base X.K X.mg c0 P) (hcode : X.env.code = .ref c0)
    (he : PE X e te) (hN : X.N[iy]? = some y) (hy0 : X.env.scope.names.lookup y = some .cell)
    (hk : scope.kind = .function) (hco : scope.isCoroutine = false) (hgen : scope.isGenerator = false) (hx : scope.names.lookup x = some .local) (hy : scope.names.lookup y = some .free) (hno : ∀ z ∈ scope.names, z.2 ≠ .cell) (hfr : ∀ z, scope.names.lookup z = some .free → z = y)
    (hdef : defaultsOf params X.env = ([], [])) (hcl : ∀ c, X.env.cells.lookup y = some c → closureFor scope X.env = pure [(y, c)])
    (hbind : ∀ (pm ctv ux : Value) (c c' : Addr), bindArgs (PySem.W.kla_fn "<lambda>" (X.env.qual ++ "<lambda>") params body scope [(y, c)] pm (.ref c') ctv) ⟨[ux], []⟩ = pure [(x, ux)])
    (hb : ∀ (f c c' : Addr) (s : Shared) (H : Hp), PE (lamCx X.prog X.w X.K X.mg X.base [x, y] (X.env.qual ++ "<lambda>") scope f (.ref c') [(y, c)] X.A.in1 X.stack s H) body tb)
    (hs : starEach [e] X.env = [(false, eval e X.env)] := by rfl) :
    PE X (.Call (.Name "max" p) [e] [⟨some "key", .Lambda params body scope lp, kp⟩] pos) (tMaxLam X.K P lp (X.env.qual ++ "<lambda>") iy te tb) := by
  intro pins s σ H Q I h
  have h' : tCons te tNil σ H (one (rMaxLam X.K P lp (X.env.qual ++ "<lambda>") iy tb σ Q)) := h
  refine wpAny_Call_Name_kw (ld_blt I hg hm boot_max5 ?_)
  refine callWith_kw (thn ((pa_cons he pa_nil hs) pos pins s σ H _ I h') fun us s1 ⟨vs, H1, I1, r1, q1⟩ => kws_cons ?_) (by rw [hs]; rfl) (by rw [hs]; rfl) rfl rfl
  obtain ⟨v0, rfl, a, xs, kf, vy, rfl, hvy, hne, ht, q⟩ := one_of q1
  obtain ⟨c, hc⟩ : ∃ c, X.env.cells.lookup y = some c := I1.ok.has y (.inl hy0)
  refine make_lam I1 T hcode hdef (hcl c hc) ht fun q0 s2 H2 c' pm ctv I2 ho hq0 hqL hqf hce ht2 hsame => ?_
  refine kws_nil ?_
  obtain ⟨hT, hturn, hfin⟩ := q H2 hsame ht2
  cases r1 with
  | cons r rr =>
    cases rr
    cases r
    have I3 : Inv X (pins ++ [(q0, PySem.W.kla_obj "<lambda>" (X.env.qual ++ "<lambda>") params body scope [(y, c)] pm c' ctv)]) σ H2 s2 := I2.pins_of fun p hp => (List.mem_append.mp hp).elim (fun z => I2.pin p (List.mem_append_right _ z)) fun z => by
      rw [List.mem_singleton.mp z]
      exact ⟨ho, hq0, hqL, hqf, fun v z => nomatch z⟩
    show wpAny _ _ (call (.builtin "max") [.ref a] [(Str.ofString "key", .ref q0)]) _ _ _
    refine thn (call_maxKey kf (Same H2) hcalm (fun H e => e.seqT hT) hne (fun i x hx0 pins' s' H' u J hp w ru => ?_) I3 (Same.refl _) fun i x H' hx0 hb0 e => hfin i x H' hx0 hb0 e) fun u s' ⟨v, H', J, r, q⟩ => ⟨v, H', J.unpinned, r, q⟩
    have po := J.pin (q0, _) (List.mem_append_right _ (hp _ (List.mem_append_right _ (List.mem_singleton.mpr rfl))))
    obtain ⟨m', hns', hl'⟩ := J.loc
    obtain ⟨uy, ry, lk⟩ := hl' iy y vy hN hvy (.inr (.inl hy0))
    have hcell : s'.heap.IsCell c (some uy) := by
      rcases lk with ⟨k1, _⟩ | ⟨_, c2, e2, hc2⟩
      · have k2 : X.env.scope.names.lookup y = some .local := k1
        rw [hy0] at k2; cases k2
      · rw [hc] at e2; cases e2; exact hc2
    have hcd : s'.heap.CodeRec (.ref c') (X.env.qual ++ "<lambda>") := (J.hok c' _ (w _ _ hce)).1
    refine wpAny_call (codeAny_mono (lam_call (A := X.A.in1) (outer := X.stack) hk hco hgen hx hy hno hfr (J.ok.hd hcalm) hr J.env0.in1 po.1 hcd (hbind pm ctv u c c') ru ry hcell (J.freeC y c hc) (hb q0 c c' s' H') (hturn i x H' hx0 w)) fun r s'' hq => ?_)
    cases r with
    | error e => exact False.elim hq
    | ok fl =>
      cases fl with
      | ret u => exact J.after hq
      | next => exact False.elim hq
      | brk => exact False.elim hq
      | cont => exact False.elim hq
end L2
end

section
set_option Elab.async false
set_option linter.all false
set_option maxRecDepth 100000
set_option maxHeartbeats 2000000
namespace L2
open PySem PySem.Spec PyProof.Rows
/-- for x, s in zip(a list that the body leaves, a text) -/
theorem for_zipS {K : PySem.W.Frag} {a : Addr} {y : Str} {xs : List V} {g : TG} {tb : TS} {D : Ends} {σ : St} {H : Hp} (Pv : Nat → St → Hp → Prop) (h0 : Pv 0 σ H) (hl : ∀ i σ H, Pv i σ H → SqL K H a xs)
    (hs : ∀ i x c T σ H, xs[i]? = some x → y.cps[i]? = some c → Pv i σ H → H T = none → g (.ref T) σ (upd H T (.tup [x, .str ⟨#[c]⟩])) fun σ2 H2 => tb { D with nx := Pv (i + 1), ct := Pv (i + 1), bk := D.nx } σ2 H2)
    (hd : ∀ i σ H, (xs.length ≤ i ∨ y.cps.size ≤ i) → Pv i σ H → D.nx σ H) :
    ∃ W : Nat → Nat → St → Hp → Prop, (∃ m, W 0 m σ H) ∧ ∀ i m σ H, W i m σ H →
      ((Itzs K a y).stop i H ∧ D.nx σ H) ∨ ((Itzs K a y).go i H ∧ ∃ N : St → Hp → Prop, (∀ σ' H', N σ' H' → ∃ m', m' < m ∧ W (i + 1) m' σ' H') ∧ ∀ x H', (Itzs K a y).yld i H x H' → g x σ H' fun σ2 H2 => tb { D with nx := N, ct := N, bk := D.nx } σ2 H2) := by
  refine ⟨fun i m σ H => m = xs.length - i ∧ Pv i σ H, ⟨xs.length, by simp, h0⟩, ?_⟩
  rintro i m σ H ⟨rfl, p⟩
  have q := hl i σ H p
  by_cases h : xs.length ≤ i ∨ y.cps.size ≤ i
  · exact .inl ⟨⟨xs, q, h⟩, hd i σ H h p⟩
  · have h1 : i < xs.length := by omega
    have h2 : i < y.cps.size := by omega
    refine .inr ⟨⟨xs, xs[i], y.cps[i], q, by simp [h1], by simp [h2]⟩, Pv (i + 1), fun σ' H' p' => ⟨xs.length - (i + 1), by omega, rfl, p'⟩, fun x H' y' => ?_⟩
    obtain ⟨T, x', c, rfl, hT, rfl, hx, hc⟩ := y'
    exact hs i x' c T σ H (hx xs q) hc p hT
/-- for i, x in enumerate(a list that the body leaves) -/
theorem for_enum {K : PySem.W.Frag} {a : Addr} {xs : List V} {g : TG} {tb : TS} {D : Ends} {σ : St} {H : Hp} (Pv : Nat → St → Hp → Prop) (h0 : Pv 0 σ H) (hl : ∀ i σ H, Pv i σ H → SqL K H a xs)
    (hs : ∀ i x T σ H, xs[i]? = some x → Pv i σ H → H T = none → g (.ref T) σ (upd H T (.tup [.int (i : Nat), x])) fun σ2 H2 => tb { D with nx := Pv (i + 1), ct := Pv (i + 1), bk := D.nx } σ2 H2) (hd : ∀ σ H, Pv xs.length σ H → D.nx σ H) :
    ∃ W : Nat → Nat → St → Hp → Prop, (∃ m, W 0 m σ H) ∧ ∀ i m σ H, W i m σ H →
      ((Ite K a).stop i H ∧ D.nx σ H) ∨ ((Ite K a).go i H ∧ ∃ N : St → Hp → Prop, (∀ σ' H', N σ' H' → ∃ m', m' < m ∧ W (i + 1) m' σ' H') ∧ ∀ x H', (Ite K a).yld i H x H' → g x σ H' fun σ2 H2 => tb { D with nx := N, ct := N, bk := D.nx } σ2 H2) := by
  refine ⟨fun i m σ H => m = xs.length - i ∧ i ≤ xs.length ∧ Pv i σ H, ⟨xs.length, by simp, Nat.zero_le _, h0⟩, ?_⟩
  rintro i m σ H ⟨rfl, hi, p⟩
  have q := hl i σ H p
  by_cases h : i < xs.length
  · refine .inr ⟨⟨xs, xs[i], q, by simp [h]⟩, Pv (i + 1), fun σ' H' p' => ⟨xs.length - (i + 1), by omega, rfl, h, p'⟩, fun x H' y' => ?_⟩
    obtain ⟨T, x', rfl, hT, rfl, hx⟩ := y'
    exact hs i x' T σ H (hx xs q) p hT
  · have e : i = xs.length := by omega
    subst e
    exact .inl ⟨⟨xs, q, Nat.le_refl _⟩, hd σ H p⟩
end L2
end

section
set_option Elab.async false
set_option linter.all false
set_option maxRecDepth 100000
set_option maxHeartbeats 2000000
namespace L2
open PySem PySem.Spec PyProof.Rows
open PySem.W (WData Codec OpenSpec Well WellAll ReadsW ReadsAllW)
/-! ### the head where a def's code table may grow -/
theorem Same.sqL {K : PySem.W.Frag} {H H' : Hp} {a : Addr} {xs : List V} (e : Same H H') (h : SqL K H a xs) : SqL K H' a xs := e.seq h
mutual
theorem Dw.same {K : PySem.W.Frag} {H H' : Hp} (e : Same H H') : ∀ {v : V} {d : WData}, Dw K H v d → Dw K H' v d
  | _, _, .non => .non
  | _, _, .bl b => .bl b
  | _, _, .int i => .int i
  | _, _, .str x => .str x
  | _, _, .byt b => .byt b
  | _, _, .lst h r => .lst (e.seq h) (DwAll.same e r)
  | _, _, .tup h r => .tup (e.seqT h) (DwAll.same e r)
theorem DwAll.same {K : PySem.W.Frag} {H H' : Hp} (e : Same H H') : ∀ {vs : List V} {ds : List WData}, DwAll K H vs ds → DwAll K H' vs ds
  | _, _, .nil => .nil
  | _, _, .cons h r => .cons (Dw.same e h) (DwAll.same e r)
end
/-- nothing is tracked but what is known to the object, and the empty table at P -/
def OnlyP (P : Addr) (H : Hp) : Prop := H P = some (.tbl #[]) ∧ ∀ b, b = P ∨ H b = none ∨ ∃ o u, H b = some (.frz o u)
theorem spec_callT {P : Program} {w : World} {K : PySem.W.Frag} {mg mb : Str → Option Value} {CX : CXT} {k : Nat} {fa T : Addr} {fd : FuncData} {ps : List Str} {sp : Sp} {s₁ : Shared} {vals : List Value} {ds : List WData} {R : PySem.W.WRecords} {cl : Str → Option Addr} {d0 : WData}
    (KX : K.In s₁.heap) (hns : s₁.heap.Ns mainGlobals mg) (hb : s₁.heap.Ns builtinsNs mb) (hbb : ∀ x : Str, x ≠ "__name__" → mb x = bootBuiltins x) (hlim : s₁.heap.NoLimit) (hg : s₁.gens = #[])
    (hT : s₁.heap.get? T = some { cls := .none, data := .fields #[] }) (hTK : K.lookup T = none) (hTc : isCodeTable s₁.heap T)
    (hwl : WellAll w.params s₁.heap vals ds) (hpl : plWs ds = true) (hwt : ∀ d ∈ ds, d.weight ≤ 1048576) (hr : Room k callerA)
    (hBM : BMod s₁.heap mg) (F : ∀ base : Heap, K.In base → base.Ns mainGlobals mg → BMod base mg → FnOk P w K mg base CX k fa fd ps sp) (hbind : ∀ (s : Shared) (us : List Value), us.length = ps.length → BindsTo s fd ⟨us, []⟩ (ps.zip us)) (hlen : ds.length = ps.length)
    (hsp : ∀ (H : Hp) (xs : List V), OnlyP T H → DwAll K H xs ds → sp xs H (fun v H' => Dw K H' v d0) fun _ _ _ => False)
    (hCX : ∀ H e s', CX [] H s₁ (fun _ _ _ => False) e s' → False) :
    codeAny (model P w) callerA (.call (.ref fa) ⟨vals, []⟩) (fun r s' => ∃ u as, r = .ok (.ret u) ∧ ReadsW R cl s'.heap u d0 as ∧ OldK s₁.heap s'.heap ∧ s'.os = s₁.os ∧ AllBare s'.gens) s₁ := by
  obtain ⟨A, ho, ar⟩ := area_all ds vals hwl hpl hwt
  have aT : argH K s₁.heap A T = none := by
    cases q : argH K s₁.heap A T with
    | none => rfl
    | some u =>
      obtain ⟨_, vs, _, _, ⟨e, _⟩ | ⟨e, _⟩⟩ := argH_is ar q
      · rw [hT] at e; cases e
      · rw [hT] at e; cases e
  have sA : Same (argH K s₁.heap A) (upd (argH K s₁.heap A) T (.tbl #[])) := fun b o e => by rw [upd_ne (ne_of_none e aT)]; exact e
  have hO : OnlyP T (upd (argH K s₁.heap A) T (.tbl #[])) := ⟨upd_same, fun b => by
    by_cases hb : b = T
    · exact .inl hb
    · rw [upd_ne hb]
      exact .inr (argH_only ar b)⟩
  have hok : HOk P w (upd (argH K s₁.heap A) T (.tbl #[])) s₁.heap := fun b u e => by
    by_cases hb : b = T
    · subst hb
      rw [upd_same] at e
      cases e
      exact hT
    · rw [upd_ne hb] at e
      exact (argH_ok (P := P) (w := w) ar b u e).stay (fun _ _ _ q => q) (fun d q => sA _ _ q) fun d xs q => sA _ _ q
  have hS := DwAll.same sA (dw_all KX ar ds vals hwl hpl ho)
  have hV := vals_toV ho
  have hK : ∀ b u, (upd (argH K s₁.heap A) T (.tbl #[])) b = some u → K.lookup b = none := fun b u q => by
    by_cases hb : b = T
    · rw [hb]; exact hTK
    · rw [upd_ne hb] at q
      exact (argH_is ar q).1
  have noA : ∀ {b : Addr} {o : Obj} {es : Array DictEntry} {ep : Nat}, s₁.heap.get? b = some o → o.data = .dict es ep → (upd (argH K s₁.heap A) T (.tbl #[])) b = none := fun {b o es ep} e d => by
    by_cases hb : b = T
    · subst hb
      rw [hT] at e
      cases e
      have d' : Data.fields _ = Data.dict es ep := d
      cases d'
    · rw [upd_ne hb]
      cases q : argH K s₁.heap A b with
      | none => rfl
      | some u =>
        obtain ⟨_, vs, _, _, ⟨e2, _⟩ | ⟨e2, _⟩⟩ := argH_is ar q
        · rw [e2] at e
          cases e
          have d' : Data.seq vs.toArray _ = Data.dict es ep := d
          cases d'
        · rw [e2] at e
          cases e
          have d' : Data.seq vs.toArray _ = Data.dict es ep := d
          cases d'
  have noB : ∀ {b : Addr} {o : Obj}, s₁.heap.get? b = some o → o.data = .plain → (upd (argH K s₁.heap A) T (.tbl #[])) b = none := fun {b o} e d => by
    by_cases hb : b = T
    · subst hb
      rw [hT] at e
      cases e
      have d' : Data.fields _ = Data.plain := d
      cases d'
    · rw [upd_ne hb]
      cases q : argH K s₁.heap A b with
      | none => rfl
      | some u =>
        obtain ⟨_, vs, _, _, ⟨e2, _⟩ | ⟨e2, _⟩⟩ := argH_is ar q
        · rw [e2] at e
          cases e
          have d' : Data.seq vs.toArray _ = Data.plain := d
          cases d'
        · rw [e2] at e
          cases e
          have d' : Data.seq vs.toArray _ = Data.plain := d
          cases d'
  generalize upd (argH K s₁.heap A) T (.tbl #[]) = H at hO hok hS hK noA noB
  have base_of : ∀ {b : Addr} {o : Obj}, s₁.heap.get? b = some o → H b = none → (hidT s₁.heap H).get? b = some o := fun e n => hidT_get e n
  have nsK : ∀ {b : Addr} {m : Str → Option Value}, s₁.heap.Ns b m → (hidT s₁.heap H).Ns b m := fun {b m} ⟨o, es, ep, e, d, r⟩ => ⟨o, es, ep, base_of e (noA e d), d, r⟩
  have nK : ∀ b o, K.lookup b = some o → H b = none := fun b o e => by
    cases q : H b with
    | none => rfl
    | some u =>
      rw [hK b u q] at e
      cases e
  have hKb : K.In (hidT s₁.heap H) := fun b o e => base_of (KX b o e) (nK b o e)
  have hM : Mod K mg (hidT s₁.heap H) := ⟨hKb, nsK hns, ⟨mb, nsK hb, hbb⟩, let ⟨mc, h1, h2⟩ := hlim; ⟨mc, nsK h1, h2⟩⟩
  have e0 : Env0 P w K mg (hidT s₁.heap H) callerA [] s₁ H := ⟨rfl, hM, fun b o e => of_hidT e, Nat.le_of_eq (hidT_size _ _), trivial, fun b hb => absurd (show b ∈ ([] : List Addr) from hb) (by simp), hok, .of_eq hg⟩
  have hl : vals.length = ps.length := by rw [wellAll_len hwl]; exact hlen
  have hBM' : BMod (hidT s₁.heap H) mg := let ⟨b, o, z1, z2, z3, z4, z5, z6, z7⟩ := hBM; ⟨b, o, z1, z2, z3, base_of z4 (noB z4 z7), z5, z6, z7⟩
  refine codeAny_mono ((F _ hKb (nsK hns) hBM').run callerA [] s₁ H ⟨vals, []⟩ vals (vals.map toV) _ _ hr e0 (hbind s₁ vals hl) hV (hsp H _ hO hS)) fun r s' x => ?_
  cases r with
  | error e => exact (hCX H e s' x).elim
  | ok fl =>
    cases fl with
    | next => exact False.elim x
    | brk => exact False.elim x
    | cont => exact False.elim x
    | ret u =>
      obtain ⟨v, H', os, bare, un, hok', r', q⟩ := x
      have kept : ∀ b o, b ≠ T → s₁.heap.get? b = some o → s'.heap.get? b = some o := fun b o hbT e => by
        cases q2 : H b with
        | none => exact un.keep b o e q2 (by intro z; exact absurd (show b ∈ ([] : List Addr) from z) (by simp)) (by simp)
        | some u2 =>
          rcases hO.2 b with z | z | ⟨ob, u3, z⟩
          · exact absurd z hbT
          · rw [q2] at z
            cases z
          · have z2 := un.frzs b ob _ z
            obtain ⟨e1, _⟩ := hok b _ z
            obtain ⟨e2, _⟩ := hok' b _ z2
            rw [e] at e1
            cases e1
            exact e2
      obtain ⟨more, hm⟩ := un.tbls T #[] hO.1
      have hT' : s'.heap.get? T = some { cls := .none, data := .fields (#[] ++ more) } := hok' T _ hm
      have KX' : K.In s'.heap := fun b o e => kept b o (fun z => by rw [z, hTK] at e; cases e) (KX b o e)
      obtain ⟨as, hrd⟩ := Dw.reads (R := R) (cl := cl) hok' KX' d0 v u q r'
      refine ⟨u, as, rfl, hrd, ⟨fun b o e => ?_, fun b o e => ?_⟩, os, bare⟩
      · by_cases hbT : b = T
        · subst hbT
          rw [hT] at e
          cases e
          exact .inr (.inl ⟨hTc, rfl, #[], more, rfl, hT'⟩)
        · exact .inl (kept b o hbT e)
      · by_cases hbT : b = T
        · subst hbT
          exact ⟨_, hT'⟩
        · exact ⟨o, kept b o hbT e⟩
/-- the goal that the head leaves, from the promise of the row's def, a table at T -/
theorem walk_specT {r : OpenSpec} {k : Nat} {q : Program} {loose : List Str} {XP : (Str → Option Value) → Heap → Prop} {YP : World → Heap → Prop} {d : DefRec} {K : Params → PySem.W.Frag} {ps : List Str} {sp : World → PySem.W.Frag → Sp} {T : Addr}
    (hwell : r.wellSaid = true) (hdf : d.params.defaults = []) (hlen : r.args.length = ps.length) (hr : Room k callerA)
    (hY : ∀ (w : World) (h : Heap), YP w h → (K w.params).In h)
    (hT : ∀ (w : World) (h : Heap), YP w h → h.get? T = some { cls := .none, data := .fields #[] } ∧ (K w.params).lookup T = none ∧ isCodeTable h T)
    (F : ∀ (w : World) (mg : Str → Option Value) (fa : Addr) (h : Heap), YP w h → (K w.params).In h → h.Ns mainGlobals mg → mg d.name = some (.ref fa) →
      ∃ fd : FuncData, (∀ (s : Shared) (us : List Value), us.length = ps.length → BindsTo s fd ⟨us, []⟩ (ps.zip us)) ∧
        ∀ base : Heap, (K w.params).In base → base.Ns mainGlobals mg → BMod base mg → FnOk r.prog w (K w.params) mg base CX0 k fa fd ps (sp w (K w.params)))
    (hsp : ∀ (w : World) (K : PySem.W.Frag) (H : Hp) (xs : List V) (a : Codec.denoteAll r.args), OnlyP T H → Codec.withinAll r.args a = true → Codec.app r.args r.asked a = true → DwAll K H xs (Codec.encAll r.args a) →
      sp w K xs H (fun v H' => Dw K H' v (r.ret.enc (Codec.app r.args r.f a))) fun _ _ _ => False) :
    PySem.W.WalkOS q loose XP YP r d [] (fun f vs => PySem.call f vs) := by
  intro w s_0 s₁ mg mb G Y fa o pm cd doc dV kV ho hd hcd hD hmg hg args vals as hpre hlay hrd hwl hlo
  obtain ⟨a, e1, e2⟩ := PySem.W.os_pre_some hpre
  obtain ⟨e3, hwi⟩ := Codec.encAll_of_decAll r.args args a e1
  subst e3
  have KX := hY w _ Y
  obtain ⟨t1, t2, t3⟩ := hT w _ Y
  obtain ⟨fd, hb, hF⟩ := F w mg fa _ Y KX G.T.g hmg
  have hBM : BMod s₁.heap mg := by
    obtain ⟨b, o, z1, z2, z4, z5, z6, z7⟩ := G.T.bmain
    refine ⟨b, o, z1, z2, fun z => ?_, z4, z5, z6, z7⟩
    obtain ⟨o', es, ep, y1, y2, _⟩ := G.T.g
    rw [z] at z4
    rw [z4] at y1
    cases y1
    rw [z7] at y2
    cases y2
  refine PySem.W.enter_call (codeAny_mono (spec_callT (R := []) (cl := classAt s_0.heap) (d0 := r.ret.enc (Codec.app r.args r.f a)) KX G.T.g G.T.b G.T.builtins G.T.nolimit hg t1 t2 t3 hwl (pl_encAll _ _) (layable_weight hlay) hr hBM hF hb (by rw [encAll_len]; exact hlen)
    (fun H xs hO hS => hsp w _ H xs a hO hwi e2 hS) fun H e s' z => z) fun r' s' hq => ?_)
  obtain ⟨u, as', rfl, h1, h2, h3, h4⟩ := hq
  exact ⟨.inl ⟨u, _, as', rfl, fun _ => rfl, h1, (OpenSpec.post_iff hwell hwi _ _).mpr rfl, fun z => Bool.noConfusion (show false = true from z)⟩, h2, h3, h4⟩
end L2
end

section
set_option Elab.async false
set_option maxRecDepth 100000
set_option linter.all false
set_option maxHeartbeats 400000
namespace Th
/-! ### the hash of (word, n): no two are equal for n below 256 -/
theorem unrot {x y : Nat} (hx : x < 18446744073709551616) (hy : y = (x * 2147483648) % 18446744073709551616 + x / 8589934592) : x = (y % 2147483648) * 8589934592 + y / 2147483648 ∧ y < 18446744073709551616 := by
  have e : (x * 2147483648) % 18446744073709551616 = (x % 8589934592) * 2147483648 := Nat.mul_mod_mul_right 2147483648 x 8589934592
  rw [e] at hy
  obtain ⟨p, hp⟩ : ∃ p, p = x % 8589934592 := ⟨_, rfl⟩
  obtain ⟨q, hq⟩ : ∃ q, q = x / 8589934592 := ⟨_, rfl⟩
  have h1 : x = 8589934592 * q + p := by omega
  have h2 : q < 2147483648 := by omega
  have h3 : p < 8589934592 := by omega
  rw [← hp, ← hq] at hy
  have h4 : y % 2147483648 = q := by omega
  have h5 : y / 2147483648 = p := by omega
  omega
theorem unmul {y z : Nat} (hz : z = (y * 11400714785074694791) % 18446744073709551616) (hy : y < 18446744073709551616) : y = (z * 614540362697595703) % 18446744073709551616 := by
  omega
/-- what an item turns the number into -/
def step (a h : Nat) : Nat := ((((a + h * 14029467366897019727) % 18446744073709551616 * 2147483648) % 18446744073709551616 + (a + h * 14029467366897019727) % 18446744073709551616 / 8589934592) * 11400714785074694791) % 18446744073709551616
/-- from the result back -/
def back (z : Nat) : Nat := ((z * 614540362697595703 % 18446744073709551616) % 2147483648) * 8589934592 + (z * 614540362697595703 % 18446744073709551616) / 2147483648
theorem step_of {a h x y z : Nat} (hx : x = (a + h * 14029467366897019727) % 18446744073709551616) (hy : y = (x * 2147483648) % 18446744073709551616 + x / 8589934592) (hz : z = (y * 11400714785074694791) % 18446744073709551616) : step a h = z := by
  unfold step
  rw [← hx, ← hy, ← hz]
theorem back_of {x y z : Nat} (h1 : x = (y % 2147483648) * 8589934592 + y / 2147483648) (h3 : y = (z * 614540362697595703) % 18446744073709551616) : x = back z := by
  unfold back
  rw [← h3, ← h1]
theorem step_back (a h : Nat) : (a + h * 14029467366897019727) % 18446744073709551616 = back (step a h) ∧ step a h < 18446744073709551616 := by
  obtain ⟨x, hx⟩ : ∃ x, x = (a + h * 14029467366897019727) % 18446744073709551616 := ⟨_, rfl⟩
  obtain ⟨y, hy⟩ : ∃ y, y = (x * 2147483648) % 18446744073709551616 + x / 8589934592 := ⟨_, rfl⟩
  obtain ⟨z, hz⟩ : ∃ z, z = (y * 11400714785074694791) % 18446744073709551616 := ⟨_, rfl⟩
  have hxl : x < 18446744073709551616 := by rw [hx]; exact Nat.mod_lt _ (by decide)
  have hzl : z < 18446744073709551616 := by rw [hz]; exact Nat.mod_lt _ (by decide)
  obtain ⟨h1, h2⟩ := unrot hxl hy
  rw [step_of hx hy hz, ← hx]
  exact ⟨back_of h1 (unmul hz h2), hzl⟩
def sgn (u : Nat) : Int := if u == 18446744073709551615 then 1546275796 else if u < 9223372036854775808 then (u : Int) else (u : Int) - ((18446744073709551616 : Nat) : Int)
def fin (z : Nat) : Int := sgn ((z + 2870177450013471924) % 18446744073709551616)
theorem sgn_inj {u v : Nat} (hu : u < 18446744073709551616) (hv : v < 18446744073709551616) (e : sgn u = sgn v) : u = v ∨ (u = 18446744073709551615 ∧ v = 1546275796) ∨ (v = 18446744073709551615 ∧ u = 1546275796) := by
  unfold sgn at e
  simp only [beq_iff_eq] at e
  by_cases h1 : u = 18446744073709551615
  · rw [if_pos h1] at e
    by_cases h2 : v = 18446744073709551615
    · left; rw [h1, h2]
    · rw [if_neg h2] at e
      by_cases h3 : v < 9223372036854775808
      · rw [if_pos h3] at e; right; left; exact ⟨h1, by omega⟩
      · rw [if_neg h3] at e; omega
  · rw [if_neg h1] at e
    by_cases h2 : v = 18446744073709551615
    · rw [if_pos h2] at e
      by_cases h3 : u < 9223372036854775808
      · rw [if_pos h3] at e; right; right; exact ⟨h2, by omega⟩
      · rw [if_neg h3] at e; omega
    · rw [if_neg h2] at e
      left
      by_cases h3 : u < 9223372036854775808
      · rw [if_pos h3] at e
        by_cases h4 : v < 9223372036854775808
        · rw [if_pos h4] at e; omega
        · rw [if_neg h4] at e; omega
      · rw [if_neg h3] at e
        by_cases h4 : v < 9223372036854775808
        · rw [if_pos h4] at e; omega
        · rw [if_neg h4] at e; omega
def stepM (m p1 p2 e31 e33 : Nat) (acc : Nat) (h : Int) : Nat :=
  let acc := (acc + (h % (m : Int)).toNat * p2) % m
  let acc := (acc * e31) % m + acc / e33
  (acc * p1) % m
def finM (m e63 c acc : Nat) : Int :=
  let acc := (acc + c) % m
  if acc == m - 1 then 1546275796 else if acc < e63 then acc else (acc : Int) - m
def thG (m p1 p2 p5 e31 e33 e63 c : Nat) (hashes : List Int) : Int :=
  let acc := hashes.foldl (init := p5) fun acc h =>
    let acc := (acc + (h % (m : Int)).toNat * p2) % m
    let acc := (acc * e31) % m + acc / e33
    (acc * p1) % m
  let acc := (acc + (hashes.length ^^^ c)) % m
  if acc == m - 1 then 1546275796 else if acc < e63 then acc else (acc : Int) - m
theorem hash_G (l : List Int) : PySem.Builtin.Tuple.tupleHashOf l = thG (2 ^ 64) 11400714785074694791 14029467366897019727 2870177450012600261 (2 ^ 31) (2 ^ 33) (2 ^ 63) (2870177450012600261 ^^^ 3527539) l := rfl
theorem th_two (m p1 p2 p5 e31 e33 e63 c : Nat) (w n : Int) : thG m p1 p2 p5 e31 e33 e63 c [w, n] = finM m e63 (2 ^^^ c) (stepM m p1 p2 e31 e33 (stepM m p1 p2 e31 e33 p5 w) n) := rfl
theorem c64 : (2 : Nat) ^ 64 = 18446744073709551616 := by decide +kernel
theorem c63 : (2 : Nat) ^ 63 = 9223372036854775808 := by decide +kernel
theorem c31 : (2 : Nat) ^ 31 = 2147483648 := by decide +kernel
theorem c33 : (2 : Nat) ^ 33 = 8589934592 := by decide +kernel
theorem cx : (2 : Nat) ^^^ (2870177450012600261 ^^^ 3527539) = 2870177450013471924 := by decide +kernel
theorem hash_two (w n : Int) : PySem.Builtin.Tuple.tupleHashOf [w, n] = finM 18446744073709551616 9223372036854775808 2870177450013471924 (stepM 18446744073709551616 11400714785074694791 14029467366897019727 2147483648 8589934592 (stepM 18446744073709551616 11400714785074694791 14029467366897019727 2147483648 8589934592 2870177450012600261 w) n) := by
  rw [hash_G, th_two, c64, c63, c31, c33, cx]
theorem stepM_eq (a : Nat) (n : Int) (k : Nat) (hk : (n % ((18446744073709551616 : Nat) : Int)).toNat = k) : stepM 18446744073709551616 11400714785074694791 14029467366897019727 2147483648 8589934592 a n = step a k := by
  unfold stepM step
  rw [hk]
theorem finM_eq (z : Nat) : finM 18446744073709551616 9223372036854775808 2870177450013471924 z = fin z := by
  have e : 18446744073709551616 - 1 = 18446744073709551615 := by decide +kernel
  unfold finM fin sgn
  rw [e]
/-- z is one of the two numbers that give the same -/
theorem fin_inj {z z' : Nat} (h : z < 18446744073709551616) (h' : z' < 18446744073709551616) (e : fin z = fin z') : z = z' ∨ (z = 15576566623696079691 ∧ z' = 15576566625242355488) ∨ (z' = 15576566623696079691 ∧ z = 15576566625242355488) := by
  unfold fin at e
  have m1 := Nat.mod_lt (z + 2870177450013471924) (show 18446744073709551616 > 0 by decide)
  have m2 := Nat.mod_lt (z' + 2870177450013471924) (show 18446744073709551616 > 0 by decide)
  rcases sgn_inj m1 m2 e with q | ⟨q1, q2⟩ | ⟨q1, q2⟩
  · left; omega
  · right; left; exact ⟨by omega, by omega⟩
  · right; right; exact ⟨by omega, by omega⟩
theorem small_mod {n : Nat} (h : n < 256) : ((n : Int) % ((18446744073709551616 : Nat) : Int)).toNat = n := by
  rw [Int.emod_eq_of_lt (by omega) (by omega)]
  omega
theorem back1 : back 15576566623696079691 = 9148689060682678900 := by decide +kernel
theorem back2 : back 15576566625242355488 = 15881292906973731817 := by decide +kernel
theorem inv_id (d : Int) : d = d * 14029467366897019727 * 839798700976720815 - 18446744073709551616 * (638699622168397319 * d) := by omega
theorem inv_mod (d : Int) (h : (d * 14029467366897019727) % 18446744073709551616 = 0) : d % 18446744073709551616 = 0 := by
  obtain ⟨k, hk⟩ := Int.dvd_of_emod_eq_zero h
  have e := inv_id d
  rw [hk] at e
  have e2 : d = 18446744073709551616 * (k * 839798700976720815 - 638699622168397319 * d) := by
    rw [Int.mul_sub, ← Int.mul_assoc]
    exact e
  exact Int.emod_eq_zero_of_dvd ⟨_, e2⟩
theorem mod_split (x y : Nat) (h : x % 18446744073709551616 = y) : ∃ q : Int, (x : Int) = 18446744073709551616 * q + (y : Int) := ⟨((x / 18446744073709551616 : Nat) : Int), by omega⟩
theorem atoms0 {a A B C D x : Int} (e1 : a + A = C + x) (e2 : a + B = D + x) : A - B = C - D := by omega
theorem atoms1 {a A B C D : Int} (e1 : a + B = C + 9148689060682678900) (e2 : a + A = D + 15881292906973731817) : A - B - 9634562188061994491 * 14029467366897019727 = D - C - 18446744073709551616 * 7327459809256957315 := by omega
theorem near0 {n m : Nat} (hn : n < 256) (hm : m < 256) (h : ((m : Int) - n) % 18446744073709551616 = 0) : n = m := by omega
theorem near1 {n m : Nat} (hn : n < 256) (hm : m < 256) (h : ((m : Int) - n - 9634562188061994491) % 18446744073709551616 = 0) : False := by omega
theorem lin0 {a n m : Nat} (hn : n < 256) (hm : m < 256) (h : (a + m * 14029467366897019727) % 18446744073709551616 = (a + n * 14029467366897019727) % 18446744073709551616) : n = m := by
  obtain ⟨q1, e1⟩ := mod_split (a + m * 14029467366897019727) _ h
  obtain ⟨q2, e2⟩ := mod_split (a + n * 14029467366897019727) _ rfl
  rw [Int.natCast_add, Int.natCast_mul] at e1 e2
  refine near0 hn hm (inv_mod _ (Int.emod_eq_zero_of_dvd ⟨q1 - q2, ?_⟩))
  rw [Int.sub_mul, Int.mul_sub]
  exact atoms0 e1 e2
theorem lin1 {a n m : Nat} (hn : n < 256) (hm : m < 256) (h1 : (a + n * 14029467366897019727) % 18446744073709551616 = 9148689060682678900) (h2 : (a + m * 14029467366897019727) % 18446744073709551616 = 15881292906973731817) : False := by
  obtain ⟨q1, e1⟩ := mod_split (a + n * 14029467366897019727) _ h1
  obtain ⟨q2, e2⟩ := mod_split (a + m * 14029467366897019727) _ h2
  rw [Int.natCast_add, Int.natCast_mul] at e1 e2
  refine near1 hn hm (inv_mod _ (Int.emod_eq_zero_of_dvd ⟨q2 - q1 - 7327459809256957315, ?_⟩))
  rw [Int.sub_mul, Int.sub_mul, Int.mul_sub, Int.mul_sub]
  exact atoms1 e1 e2
theorem hash_inj {w : Int} {n m : Nat} (hn : n < 256) (hm : m < 256) (e : PySem.Builtin.Tuple.tupleHashOf [w, (n : Int)] = PySem.Builtin.Tuple.tupleHashOf [w, (m : Int)]) : n = m := by
  rw [hash_two, hash_two, finM_eq, finM_eq, stepM_eq _ _ n (small_mod hn), stepM_eq _ _ m (small_mod hm)] at e
  generalize stepM 18446744073709551616 11400714785074694791 14029467366897019727 2147483648 8589934592 2870177450012600261 w = a at e
  obtain ⟨h1, h2⟩ := step_back a n
  obtain ⟨h3, h4⟩ := step_back a m
  rcases fin_inj h2 h4 e with q | ⟨q1, q2⟩ | ⟨q1, q2⟩
  · rw [← q] at h3
    rw [← h1] at h3
    exact lin0 hn hm h3
  · rw [q1, back1] at h1
    rw [q2, back2] at h3
    exact (lin1 hn hm h1 h3).elim
  · rw [q1, back1] at h3
    rw [q2, back2] at h1
    exact (lin1 hm hn h3 h1).elim
end Th
namespace Th
/-! ### the last step -/
theorem sgn_range (u : Nat) (h : u < 18446744073709551616) : -(9223372036854775808 : Int) ≤ sgn u ∧ sgn u < 9223372036854775808 ∧ sgn u ≠ -1 := by
  unfold sgn
  simp only [beq_iff_eq]
  split
  · omega
  · split <;> omega
theorem two_range (w n : Int) : -(9223372036854775808 : Int) ≤ PySem.Builtin.Tuple.tupleHashOf [w, n] ∧ PySem.Builtin.Tuple.tupleHashOf [w, n] < 9223372036854775808 ∧ PySem.Builtin.Tuple.tupleHashOf [w, n] ≠ -1 := by
  rw [hash_two, finM_eq]
  exact sgn_range _ (Nat.mod_lt _ (by decide))
theorem red_id {i : Int} (h1 : -(9223372036854775808 : Int) ≤ i) (h2 : i < 9223372036854775808) (h3 : i ≠ -1) : PySem.reduceHash i = i := by
  unfold PySem.reduceHash
  have e1 : (decide (-(2 ^ 63 : Int) ≤ i) && decide (i < 2 ^ 63)) = true := by
    rw [Bool.and_eq_true, decide_eq_true_iff, decide_eq_true_iff]
    exact ⟨h1, h2⟩
  rw [if_pos e1]
  rw [if_neg (by simpa using h3)]
theorem red_inj {w n m : Int} (e : PySem.reduceHash (PySem.Builtin.Tuple.tupleHashOf [w, n]) = PySem.reduceHash (PySem.Builtin.Tuple.tupleHashOf [w, m])) : PySem.Builtin.Tuple.tupleHashOf [w, n] = PySem.Builtin.Tuple.tupleHashOf [w, m] := by
  obtain ⟨a1, a2, a3⟩ := two_range w n
  obtain ⟨b1, b2, b3⟩ := two_range w m
  rwa [red_id a1 a2 a3, red_id b1 b2 b3] at e
end Th
end

section
set_option Elab.async false
set_option linter.all false
set_option maxRecDepth 100000
set_option maxHeartbeats 4000000
namespace L2
open PySem PySem.Spec PyProof.Rows
/-! ### sorted(d), d a dict whose keys are ints, of any length -/
section
variable {X : Cx}
end
end L2
end

section
set_option Elab.async false
set_option linter.all false
set_option maxRecDepth 100000
set_option maxHeartbeats 4000000
namespace Up
open PySem PySem.Spec PyProof.Rows
/-! ### d.update(o): tuples as keys, none of o's is d's -/
section
variable {K : Type} [DecidableEq K] {prog : Program} {w : World} {knd : HeapKind prog w K} {A : Around} {s : Shared} {E : Value → Shared → Prop}
/-- a dict whose one object now holds ys -/
theorem held {h h' : Heap} {d : Addr} {xs ys : List (K × Addr × Value)} {o' : Obj} {es' : Array DictEntry} {ep' : Nat} (old : h.DictOfH knd d xs) (sb : Heap.SameBut d h h') (g : h'.get? d = some o') (ex : o'.ExactDict) (dt : o'.data = .dict es' ep')
    (en : es'.toList = ys.map (entryOfKey knd)) (ky : ∀ p ∈ ys, knd.is h p.1 p.2.1) (nd : (ys.map (·.1)).Nodup) : h'.DictOfH knd d ys := by
  obtain ⟨o, es, ep, go, _, dto, _⟩ := old
  exact ⟨o', es', ep', g, ex, dt, en, fun p hp => knd.keeps (ky p hp) go dto sb, nd⟩
theorem absent {xs : List (K × Addr × Value)} {k : K} (h : k ∉ xs.map (·.1)) {j : Nat} {p : Addr × Value} (e : xs[j]? = some (k, p)) : False :=
  h (List.mem_map_of_mem (f := (·.1)) (List.mem_of_getElem? e))
/-- one new key, its hash known -/
theorem add_one {d a : Addr} {xs : List (K × Addr × Value)} {k : K} {v : Value} {Q : Unit → Shared → Prop} (room : knd.room A) (isk : knd.is s.heap k a) (old : s.heap.DictOfH knd d xs) (new : k ∉ xs.map (·.1)) (small : xs.length ≤ sizeLine)
    (go : ∀ h', h'.DictOfH knd d (xs ++ [(k, a, v)]) → Heap.SameBut d s.heap h' → Q () { s with heap := h' }) : wpAny (model prog w) A (dictSetHashed d (.ref a) (knd.hash k) v) Q E s := by
  have old' := old
  obtain ⟨ob, es, ep, g, ex, dt, en, ky, nd⟩ := old'
  have len : es.size ≤ sizeLine := by rw [size_of_entries en]; exact small
  unfold dictSetHashed
  apply wpAny_holding
  apply wpAny_bind
  apply wpAny_dictFind_heap room isk g dt en ky nd
  · intro _
    apply wpAny_bind
    apply wpAny_rule
    apply wpAny_updateDictKeys g dt _ len
    apply go
    · refine held old (Heap.SameBut.update ..) (Heap.get?_update_self _ g (Obj.isFreed_of_dict (Obj.data_mapDictKeys dt _))) (ex.mapDictKeys _) (Obj.data_mapDictKeys dt _) ?_ ?_ ?_
      · rw [Array.toList_push, en, List.map_append]; rfl
      · intro p hp
        rcases List.mem_append.mp hp with q | q
        · exact ky p q
        · rw [List.mem_singleton.mp q]; exact isk
      · rw [List.map_append, List.map_singleton]
        exact List.nodup_append.mpr ⟨nd, by simp, fun u hu z hz e => new (by have q : z = k := List.mem_singleton.mp hz; rw [← q, ← e]; exact hu)⟩
    · exact Heap.SameBut.update ..
  · intro j p e
    exact (absent new e).elim
/-- where no two have one hash, no entry has another of its own -/
theorem alone {f : DictEntry → Int} {c : Int} : ∀ {l : List DictEntry}, (l.map f).Nodup → (l.filter fun x => f x == c).length ≤ 1
  | [], _ => Nat.zero_le _
  | x :: l, h => by
    obtain ⟨hx, hl⟩ := List.nodup_cons.mp h
    by_cases e : f x = c
    · have none : l.filter (fun x => f x == c) = [] := List.filter_eq_nil_iff.mpr fun y hy q => hx (by rw [e, ← eq_of_beq q]; exact List.mem_map_of_mem hy)
      rw [List.filter_cons, none]
      split <;> simp
    · have := alone (c := c) hl
      rw [List.filter_cons]
      rwa [if_neg (by simpa using e)]
theorem entries_read {nm : String} {o : Addr} {ob : Obj} {es : Array DictEntry} {ep : Nat} {more : List (K × Addr × Value)} {Q : Array DictEntry → Shared → Prop} (g : s.heap.get? o = some ob) (dt : ob.data = .dict es ep) (en : es.toList = more.map (entryOfKey knd))
    (tup : ∀ p ∈ more, s.TypeIs (.ref p.2.1) "tuple") (far : (more.map fun p => knd.hash p.1).Nodup) (go : Q es s) : wpAny (model prog w) A (Builtin.Dict.entriesForEmpty nm o) Q E s := by
  have far' : (es.toList.map (·.hash)).Nodup := by rw [en, List.map_map]; exact far
  unfold Builtin.Dict.entriesForEmpty; apply wpAny_bind
  apply wpAny_dictEntries g dt
  apply wpAny_bind
  rw [← Array.forIn_toList]
  apply wpAny_forIn_list _ (fun rest _ t => t = s ∧ rest ⊆ es.toList)
  · rintro e rest _ t ⟨rfl, sub⟩
    have me := sub List.mem_cons_self
    rw [en] at me
    obtain ⟨p, hp, rfl⟩ := List.mem_map.mp me
    apply wpAny_bind
    have loud : wpAny (model prog w) A (Builtin.Dict.quietEq (entryOfKey knd p).key) (fun b t' => b = false ∧ t' = t) E t := by
      show wpAny _ _ (Builtin.Dict.quietEq (.ref p.2.1)) _ _ _
      unfold Builtin.Dict.quietEq
      apply wpAny_bind
      apply wpAny_specialOf (tup p hp) F.slot_tuple_eq.lookup
      apply wpAny_pure
      exact ⟨by decide, rfl⟩
    apply wpAny_mono loud _ fun _ _ q => q
    rintro _ _ ⟨rfl, rfl⟩
    have one := alone (f := (·.hash)) (c := (entryOfKey knd p).hash) far'
    have size : (es.filter fun y => y.hash == (entryOfKey knd p).hash).size = (es.toList.filter fun y => y.hash == (entryOfKey knd p).hash).length := by rw [← Array.toList_filter, Array.length_toList]
    simp only [Bool.not_false, if_true]; rw [if_neg (by rw [size]; exact Nat.not_lt.mpr one)]
    exact wpAny_pure ⟨rfl, fun y hy => sub (List.mem_cons_of_mem _ hy)⟩
  · rintro _ t ⟨rfl, _⟩
    exact wpAny_pure go
  · exact ⟨rfl, fun _ q => q⟩
/-- what the turns leave: the first i of more have been added -/
def Added (knd : HeapKind prog w K) (s : Shared) (d : Addr) (xs more : List (K × Addr × Value)) (i : Nat) (t : Shared) : Prop := ∃ h', t = { s with heap := h' } ∧ h'.DictOfH knd d (xs ++ more.take i) ∧ Heap.SameBut d s.heap h'
theorem merge {nm : String} {d o : Addr} {xs more : List (K × Addr × Value)} {Q : Unit → Shared → Prop} (room : knd.room A) (ne : d ≠ o) (lo : (o == sysModules) = false) (hd : s.heap.DictOfH knd d xs) (ho : s.heap.DictOfH knd o more)
    (tup : ∀ p ∈ more, s.TypeIs (.ref p.2.1) "tuple") (far : (more.map fun p => knd.hash p.1).Nodup) (nd : ((xs ++ more).map (·.1)).Nodup) (small : xs.length + more.length ≤ sizeLine)
    (go : ∀ h', h'.DictOfH knd d (xs ++ more) → Heap.SameBut d s.heap h' → Q () { s with heap := h' }) : wpAny (model prog w) A (Builtin.Dict.mergeDict nm d o) Q E s := by
  have hd' := hd
  have ho' := ho
  obtain ⟨od, ed, pd, gd, xd, td, nnd, kd, _⟩ := hd'
  obtain ⟨oo, eo, po, g, xo, dt, en, ky, ndo⟩ := ho'
  have size := size_of_entries en
  have step : ∀ (i : Nat) (p : K × Addr × Value) (t : Shared), more[i]? = some p → Added knd s d xs more i t → ∀ {R : Unit → Shared → Prop}, (∀ t', Added knd s d xs more (i + 1) t' → t'.heap.get? o = some oo → R () t') →
      t.heap.get? o = some oo ∧ wpAny (model prog w) A (dictSetHashed d (.ref p.2.1) (knd.hash p.1) p.2.2) R E t := by
    rintro i p t hp ⟨h', rfl, hh, sb⟩ R fin
    have stay : h'.get? o = some oo := (sb.2 o (Ne.symm ne)).trans g
    refine ⟨stay, ?_⟩
    have tk : more.take (i + 1) = more.take i ++ [p] := by rw [List.take_add_one, hp]; rfl
    have hi : i < more.length := (List.getElem?_eq_some_iff.mp hp).1
    have part : ((xs ++ more.take (i + 1)).map (·.1)).Nodup := by
      refine List.Sublist.nodup ?_ nd
      exact ((List.Sublist.refl xs).append (List.take_sublist _ _)).map _
    have fresh : p.1 ∉ (xs ++ more.take i).map (·.1) := by
      rw [tk, ← List.append_assoc, List.map_append] at part
      intro m
      exact (List.nodup_append.mp part).2.2 _ m _ (List.mem_singleton.mpr rfl) rfl
    refine add_one (s := { s with heap := h' }) room (knd.keeps (ky p (List.mem_of_getElem? hp)) gd td sb) hh fresh ?_ fun h2 hh2 sb2 => fin _ ⟨h2, rfl, ?_, sb.trans sb2⟩ ((sb2.2 o (Ne.symm ne)).trans stay)
    · rw [List.length_append, List.length_take]; omega
    · rw [tk, ← List.append_assoc]; exact hh2
  have whole : more.take more.length = more := List.take_length
  have start : Added knd s d xs more 0 s := ⟨s.heap, rfl, by simpa using hd, Heap.SameBut.refl _ _⟩
  have leave : ∀ t, Added knd s d xs more more.length t → Q () t := by
    rintro t ⟨h', rfl, hh, sb⟩
    rw [whole] at hh
    exact go h' hh sb
  unfold Builtin.Dict.mergeDict Builtin.Dict.showsAll
  simp only [beq_eq_false_iff_ne.mpr ne, lo, Bool.false_eq_true, if_false]
  apply wpAny_bind
  apply wpAny_pure
  apply wpAny_bind
  apply wpAny_dictEntries g dt
  cases hm : more with
  | nil =>
    subst hm
    have eo0 : eo = #[] := by
      apply Array.eq_empty_of_size_eq_zero
      exact size
    subst eo0
    rw [if_neg (by simp)]
    apply wpAny_bind
    apply wpAny_dictEpoch g dt
    apply wpAny_bind
    apply wpAny_dictEntries g dt
    apply wpAny_bind
    rw [Std.Legacy.Range.forIn_eq_forIn_range']; apply wpAny_pure
    exact wpAny_pure (leave s start)
  | cons p0 tl =>
    have some0 : more[0]? = some p0 := by rw [hm]; rfl
    have notFew : (eo.all fun e => (keyPart e.key).isSome) = false := by
      rw [Bool.eq_false_iff]
      intro all
      have q := Array.all_eq_true'.mp all (entryOfKey knd p0) (by rw [Array.mem_def, en, hm]; exact List.mem_cons_self)
      cases q
    simp only [notFew, Bool.and_false, Bool.not_false, if_true]
    apply wpAny_bind
    apply wpAny_dictEntries gd td
    split
    · rename_i bare
      have xs0 : xs = [] := by
        have z := size_of_entries nnd
        rw [Array.isEmpty_iff.mp bare] at z
        exact List.length_eq_zero_iff.mp z.symm
      subst xs0
      apply wpAny_bind
      apply entries_read g dt en tup far
      have full : eo.isEmpty = false := by
        rw [Bool.eq_false_iff]
        intro z
        rw [Array.isEmpty_iff.mp z, hm] at size
        cases size
      rw [full]; simp only [Bool.not_false, if_true]
      apply wpAny_bind
      apply wpAny_updateDictKeysTo gd td
      · apply wpAny_pure
        apply go
        · refine held hd (Heap.SameBut.update ..) (Heap.get?_update_self _ gd (Obj.isFreed_of_dict (Obj.data_mapDictKeys td _))) (xd.mapDictKeys _) (Obj.data_mapDictKeys td _) ?_ ?_ ?_
          · exact en
          · exact ky
          · exact ndo
        · exact Heap.SameBut.update ..
      · show eo.size ≤ _
        simp only [List.length_nil] at small
        omega
    · apply wpAny_bind
      apply wpAny_dictEpoch g dt
      apply wpAny_bind
      apply wpAny_dictEntries g dt
      apply wpAny_bind
      have span : ([:eo.size] : Std.Legacy.Range).size = more.length := by simp [Std.Legacy.Range.size, size]
      rw [Std.Legacy.Range.forIn_eq_forIn_range', span]
      apply wpAny_forIn_list _ (fun rest _ t => ∃ i, rest = List.range' i (more.length - i) ∧ i ≤ more.length ∧ Added knd s d xs more i t)
      · rintro x rest _ t ⟨i, e, hi, ad⟩
        have lt : i < more.length := by
          refine Nat.lt_of_le_of_ne hi fun z => ?_
          rw [z, Nat.sub_self] at e
          cases e
        obtain ⟨n, hn⟩ : ∃ n, more.length - i = n + 1 := ⟨more.length - i - 1, by omega⟩
        rw [hn, List.range'_succ] at e
        obtain ⟨rfl, rfl⟩ := List.cons.inj e
        obtain ⟨p, hp⟩ : ∃ p, more[x]? = some p := ⟨_, List.getElem?_eq_getElem lt⟩
        have here := entry_at en x
        rw [hp] at here
        obtain ⟨stay, set⟩ := step x p t hp ad (R := fun _ t' => Added knd s d xs more (x + 1) t' ∧ t'.heap.get? o = some oo) fun t' a b => ⟨a, b⟩
        apply wpAny_bind
        apply wpAny_dictEntries stay dt
        rw [here]
        apply wpAny_bind
        apply wpAny_holding
        apply wpAny_mono set _ fun _ _ q => q
        rintro _ t' ⟨ad', stay'⟩
        apply wpAny_bind
        apply wpAny_dictEpoch stay' dt
        rw [if_neg (by simp)]
        apply wpAny_pure
        exact ⟨x + 1, by rw [show more.length - (x + 1) = n by omega], lt, ad'⟩
      · rintro _ t ⟨i, e, hi, ad⟩
        have ei : i = more.length := by
          refine Nat.le_antisymm hi (Nat.le_of_not_lt fun lt => ?_)
          obtain ⟨n, hn⟩ : ∃ n, more.length - i = n + 1 := ⟨more.length - i - 1, by omega⟩
          rw [hn, List.range'_succ] at e
          cases e
        subst ei
        exact wpAny_pure (leave t ad)
      · exact ⟨0, rfl, Nat.zero_le _, start⟩
/-- the call -/
theorem called {d o : Addr} {xs more : List (K × Addr × Value)} {Q : Value → Shared → Prop} (room : knd.room A.in1) (ne : d ≠ o) (lo : (o == sysModules) = false) (hd : s.heap.DictOfH knd d xs) (ho : s.heap.DictOfH knd o more)
    (tup : ∀ p ∈ more, s.TypeIs (.ref p.2.1) "tuple") (far : (more.map fun p => knd.hash p.1).Nodup) (nd : ((xs ++ more).map (·.1)).Nodup) (small : xs.length + more.length ≤ sizeLine)
    (go : ∀ h', h'.DictOfH knd d (xs ++ more) → Heap.SameBut d s.heap h' → Q .none { s with heap := h' }) : wpAny (model prog w) A (call (.builtin "dict.update") [.ref d, .ref o]) Q E s := by
  have m : MeetsIn prog w (Builtin.«dict.update» ⟨[.ref d, .ref o], []⟩) (fun A' R t => A' = A ∧ t = s ∧ ∀ h', h'.DictOfH knd d (xs ++ more) → Heap.SameBut d s.heap h' → R (.ok (.ret .none)) { s with heap := h' }) := by
    apply MeetsIn.of_wp
    rintro A' R t ⟨eA, et, fin⟩
    subst eA et
    have direct : ∀ {G : Bool → Shared → Prop} {E' : Value → Shared → Prop}, G true t → wpAny (model prog w) A'.in1 (Builtin.Dict.readDirectly (.ref o)) G E' t := by
      intro G E' q
      unfold Builtin.Dict.readDirectly; apply wpAny_bind
      apply wpAny_isInstance ho.typeIs isSubtype_dict_dict
      simp only [Bool.not_true, Bool.false_eq_true, if_false]; apply wpAny_bind
      apply wpAny_specialOf ho.typeIs F.slot_dict_iter.lookup
      apply wpAny_pure
      simpa using q
    unfold Builtin.«dict.update» Builtin.Dict.selfAndRest
    apply wpAny_bind
    apply wpAny_bind
    apply wpAny_notOrdered_dict hd.typeIs
    apply wpAny_pure
    show wpAny _ _ (Builtin.Dict.updateFrom _ d (.ref o) [] .none) _ _ _
    unfold Builtin.Dict.updateFrom Builtin.Dict.merge Builtin.Dict.addKeywords
    apply wpAny_bind
    apply wpAny_typeOf ho.typeIs
    rw [if_neg (by decide)]
    apply wpAny_bind
    apply wpAny_bind
    apply direct
    rw [if_pos rfl]
    apply wpAny_bind
    apply wpAny_pure
    apply merge room ne lo hd ho tup far nd small
    intro h' hh sb
    apply wpAny_bind
    apply wpAny_pure
    exact wpAny_pure ⟨_, rfl, fin h' hh sb⟩
  exact call_meetsIn F.slot_dict_update hd.typeIs F.entry_dict_update (F.args_dict_update_2 _ _) m ⟨rfl, rfl, go⟩
end
end Up
namespace L2
open PySem PySem.Spec PyProof.Rows
theorem KT.app {H : Hp} {a b : List (List Key × V)} {xs ys : List (List Key × Addr × Value)} (r : KT H a xs) (q : KT H b ys) : KT H (a ++ b) (xs ++ ys) := by
  unfold KT at *
  induction r with
  | nil => exact q
  | cons h _ ih => exact .cons h ih
theorem KT.keys {H : Hp} {a : List (List Key × V)} {xs : List (List Key × Addr × Value)} (r : KT H a xs) {β : Type} (f : List Key → β) : xs.map (fun x => f x.1) = a.map fun p => f p.1 := by
  unfold KT at r
  induction r with
  | nil => rfl
  | cons h _ ih => rw [List.map_cons, List.map_cons, ih, h.1]
/-- d.update(e): e's keys are none of d's, and no two of them have one hash -/
def rUpdate (X : Cx) : V → List V → Hp → VK → Prop := fun x vs H Q => ∃ d e kvs more, x = .ref d ∧ vs = [.ref e] ∧ d ≠ e ∧ H d = some (.dT kvs) ∧ H e = some (.dT more) ∧ kvs.length + more.length ≤ sizeLine ∧ ((kvs ++ more).map (·.1)).Nodup ∧
  (more.map fun p => tupleKeyHash (mixKind X.prog X.w) p.1).Nodup ∧ Q .non (upd H d (.dT (kvs ++ more)))
theorem mt_update {X : Cx} (hu : X.A.units + 1 < cLine) : MtM X "dict.update" (rUpdate X) := by
  intro pins s σ H x vs v us Q I rx rv h
  obtain ⟨d, e, kvs, more, rfl, rfl, ne, hd, he, small, nd, far, fin⟩ := h
  cases rx
  obtain ⟨u, rfl, ru⟩ := rv.one
  cases ru
  obtain ⟨_, lod, xs, rx, dx⟩ := dt_of I.hok hd
  obtain ⟨_, loe, ys, ry, dy⟩ := dt_of I.hok he
  have both := KT.app rx ry
  have lx : kvs.length = xs.length := Paired.length rx
  have ly : more.length = ys.length := Paired.length ry
  have tup : ∀ p ∈ ys, s.TypeIs (.ref p.2.1) "tuple" := by
    obtain ⟨_, _, _, _, _, _, _, isk, _⟩ := dy
    intro p hp
    obtain ⟨ob, _, _, g, c, _⟩ := isk p hp
    exact ⟨ob, g, c⟩
  have far' : (ys.map fun p => (tupleKind (mixKind X.prog X.w)).hash p.1).Nodup := (KT.keys ry (tupleKeyHash (mixKind X.prog X.w))).symm ▸ far
  have nd' : ((xs ++ ys).map (·.1)).Nodup := (KT.keys both id).symm ▸ nd
  refine Up.called (knd := tupleKind (mixKind X.prog X.w)) (tupleKind_room_in1 hu) ne loe dx dy tup far' nd' (by omega) fun h' hh sb => ?_
  obtain ⟨ob, es, ep, g, c, dt, en, _, n⟩ := hh
  refine ⟨.non, upd H d (.dT (kvs ++ more)), d_write (t' := s.toks) I (by rw [hd]; trivial) sb ⟨ob, g⟩ ⟨by rw [List.length_append]; exact small, lod, _, both.keeps fun a zs q => ?_, ob, es, ep, g, c, dt, en, n⟩, rfl, fin⟩
  rw [upd_ne (ne_of q hd (by intro z; cases z))]
  exact q
/-- the hash of a small number is the number -/
theorem small_hash (P : Program) (w : World) {k : Nat} (h : k < 256) : (mixKind P w).hash (Sum.inl (k : Int)) = (k : Int) := by
  show hashInt (k : Int) = k
  have raw : rawHash (k : Int) = k := by
    unfold rawHash
    have low : (((k : Int).natAbs : Nat) : Int) % ((2 ^ 61 - 1 : Nat) : Int) = k := by
      rw [Int.natAbs_natCast]
      exact Int.emod_eq_of_lt (Int.natCast_nonneg k) (Int.ofNat_lt.mpr (Nat.lt_trans h (by decide)))
    simp only [low]
    rw [if_neg (show ¬ (k : Int) < 0 by omega), if_neg (by simp)]
  unfold hashInt
  rw [raw, if_neg (by simp)]
theorem key_hash (P : Program) (w : World) (z : Str) {n m : Nat} (hn : n < 256) (hm : m < 256) (e : tupleKeyHash (mixKind P w) [Sum.inr z, Sum.inl (n : Int)] = tupleKeyHash (mixKind P w) [Sum.inr z, Sum.inl (m : Int)]) : n = m := by
  unfold tupleKeyHash at e
  simp only [List.map_cons, List.map_nil, small_hash P w hn, small_hash P w hm] at e
  exact Th.hash_inj hn hm (Th.red_inj e)
end L2
end

section
set_option Elab.async false
set_option linter.all false
set_option maxRecDepth 100000
set_option maxHeartbeats 4000000
namespace Hb
open PySem PySem.Spec PyProof.Rows L2
/-! ### the text by places -/
def top (i : Nat) : Stmt := PySem.Challenge.pw_hubpanels_s03_state.main.body.getD (i + 8) (.Pass ⟨0, 0, 0, 0⟩)
/-- the place of hubs_behind -/
abbrev bh : Nat := 27
abbrev sInit : Stmt := inClass (top 13) 0
abbrev sCount : Stmt := inClass (top 13) 1
abbrev sSigns : Stmt := inClass (top 13) 2
abbrev sFig : Stmt := inClass (top 13) 3
abbrev sNum : Stmt := inClass (top 13) 4
abbrev sHub : Stmt := inClass (top 13) 5
abbrev sWire : Stmt := inClass (top 13) 6
/-! ### data -/
abbrev Bytes := Pu.Bytes
def bV (c : UInt8) : V := .int (c.toNat : Int)
def bL (b : Bytes) : List V := b.map bV
/-- a plain text's bytes -/
def sb (z : Str) : Bytes := z.cps.toList.map UInt8.ofNat
def Plain (z : Str) : Prop := z.cps.all (· < 128) = true
/-- a LineReader's attributes -/
def rf (a : Addr) (r : Nat) : List (Str × V) := [("line", .ref a), ("right", .int r)]
theorem rf_line (a : Addr) (r : Nat) : (rf a r).lookup ("line" : Str) = some (.ref a) := rfl
theorem rf_right (a : Addr) (r : Nat) : (rf a r).lookup ("right" : Str) = some (.int r) := rfl
theorem rf_put (a : Addr) (r q : Nat) : putF "right" (.int q) (rf a r) = rf a q := rfl
theorem rf_no {a : Addr} {r : Nat} {m : Str} (h1 : ¬ m = "line") (h2 : ¬ m = "right") : (rf a r).lookup m = none := by
  have e1 : (m == ("line" : Str)) = false := beq_eq_false_iff_ne.mpr h1
  have e2 : (m == ("right" : Str)) = false := beq_eq_false_iff_ne.mpr h2
  unfold rf
  rw [List.lookup_cons, e1, List.lookup_cons, e2]
  rfl
/-- a LineReader at p: its line at a, so many bytes right -/
structure RdAt (C : Addr) (H : Hp) (p a : Addr) (b : Bytes) (r : Nat) : Prop where
  ins : ∃ dx, H p = some (.ins C dx (rf a r))
  line : H a = some (.lst (bL b))
  le : r ≤ b.length
  small : b.length ≤ 65536
theorem RdAt.ne {C : Addr} {H : Hp} {p a : Addr} {b : Bytes} {r : Nat} (h : RdAt C H p a b r) : a ≠ p := by
  obtain ⟨dx, e⟩ := h.ins
  exact ne_of h.line e (by intro q; cases q)
theorem RdAt.same {C : Addr} {H H' : Hp} {p a : Addr} {b : Bytes} {r : Nat} (h : RdAt C H p a b r) (e : Same H H') : RdAt C H' p a b r := by
  obtain ⟨dx, q⟩ := h.ins
  exact ⟨⟨dx, e _ _ q⟩, e _ _ h.line, h.le, h.small⟩
/-- all but p is as it was -/
def But (p : Addr) (H H' : Hp) : Prop := ∀ b o, H b = some o → b ≠ p → H' b = some o
theorem But.trans {p : Addr} {H H1 H2 : Hp} (a : But p H H1) (b : But p H1 H2) : But p H H2 := fun c o e n => b c o (a c o e n) n
theorem Same.but {H H' : Hp} (h : Same H H') (p : Addr) : But p H H' := fun b o e _ => h b o e
theorem bL_len (b : Bytes) : (bL b).length = b.length := List.length_map ..
theorem bL_get {b : Bytes} {i : Nat} {v : V} (h : (bL b)[i]? = some v) : ∃ c, b[i]? = some c ∧ v = bV c := by
  unfold bL at h
  rw [List.getElem?_map] at h
  cases e : b[i]? with
  | none => rw [e] at h; cases h
  | some c => rw [e] at h; exact ⟨c, rfl, (Option.some.inj h).symm⟩
/-! ### the promises -/
def spInit (C : Addr) : Sp := fun vs H Q _ => ∃ (p dx a : Addr), vs = [.ref p, .ref a] ∧ H p = some (.ins C dx []) ∧ ∀ H' : Hp, H' p = some (.ins C dx (rf a 0)) → But p H H' → Q .non H'
def spCount (C : Addr) : Sp := fun vs H Q _ => ∃ (p a : Addr) (b : Bytes) (r : Nat) (z : Str), vs = [.ref p, .str z] ∧ RdAt C H p a b r ∧ Plain z ∧ z.cps.size ≤ 100 ∧
  ∀ H' : Hp, Same H H' → Q (.int (Jm.shared (b.drop r) (sb z) : Nat)) H'
def spSigns (C : Addr) : Sp := fun vs H Q _ => ∃ (p a : Addr) (b : Bytes) (r : Nat) (z : Str), vs = [.ref p, .str z] ∧ RdAt C H p a b r ∧ Plain z ∧ z.cps.size ≤ 100 ∧
  ∀ H' : Hp, RdAt C H' p a b (r + Jm.shared (b.drop r) (sb z)) → But p H H' → Q (.bl (decide (Jm.shared (b.drop r) (sb z) = (sb z).length))) H'
/-- the figure ahead, or -1 -/
def fig : Bytes → Int
  | [] => -1
  | c :: _ => if Jm.isDig c = true then (Jm.dig c : Int) else -1
def spFig (C : Addr) : Sp := fun vs H Q _ => ∃ (p a : Addr) (b : Bytes) (r : Nat), vs = [.ref p] ∧ RdAt C H p a b r ∧ Q (.int (fig (b.drop r))) H
def spNum (C : Addr) : Sp := fun vs H Q _ => ∃ (p a : Addr) (b : Bytes) (r g : Nat), vs = [.ref p, .int g] ∧ RdAt C H p a b r ∧ 9 ≤ g ∧ g < 256 ∧
  (Jm.readNum g (b.drop r) = none → Q .non H) ∧
  ∀ n c, Jm.readNum g (b.drop r) = some (n, c) → ∀ H' : Hp, RdAt C H' p a b (r + c) → But p H H' → Q (.int n) H'
structure Txt (K : PySem.W.Frag) (mg : Str → Option Value) (C : Addr) : Prop where
  cl : Cls K C
  nL : NoAttr K C "line"
  nR : NoAttr K C "right"
  zip : mg "zip" = none
  len : mg "len" = none
  ord : mg "ord" = none
section
variable {P : Program} {w : World} {K : PySem.W.Frag} {mg : Str → Option Value} {base : Heap}
theorem scI : FnScope ["self", "line"] ["self", "line"] (defScope sInit) := ⟨rfl, rfl, rfl, by decide +kernel, rfl, by decide +kernel, by decide +kernel⟩
theorem ok_init {f C : Addr} {fd : FuncData} (F : Fun K "__init__" "LineReader.__init__" sInit f fd) (T : Txt K mg C) : FnOk P w K mg base CX0 1 f fd ["self", "line"] (spInit C) := by
  refine F.ok scI (fun vs H Q E h => ?_) (fun cdv A outer s H vs Q E hr h => ?_)
  · obtain ⟨p, dx, a, rfl, _⟩ := h
    rfl
  · obtain ⟨p, dx, a, rfl, hp, k⟩ := h
    refine ⟨_, pss_cons (ps_fld (pv 0) (pv 1) rfl) (pss_one (ps_fld (pv 0) pe_int rfl)), ?_⟩
    refine ⟨_, rfl, _, rfl, p, C, dx, [], rfl, hp, T.cl, T.nL, (by show 0 < 1000; decide), ?_⟩
    refine ⟨_, rfl, p, C, dx, _, rfl, upd_same, T.cl, T.nR, (by show 1 < 1000; decide), ?_⟩
    exact k _ upd_same fun b o e hb => by rw [upd_ne hb, upd_ne hb]; exact e
theorem boot_ord5 : bootBuiltins "ord" = some (.builtin "ord") := by decide +kernel
/-! ### count_shared -/
theorem shared_ext {b w : Bytes} {i : Nat} : (∀ j, j < i → ∃ c, b[j]? = some c ∧ w[j]? = some c) → (∀ c d, b[i]? = some c → w[i]? = some d → c ≠ d) → Jm.shared b w = i := by
  induction i generalizing b w with
  | zero =>
    intro _ h
    cases b with
    | nil => simp [Jm.shared]
    | cons x b =>
      cases w with
      | nil => simp [Jm.shared]
      | cons y w =>
        have := h x y rfl rfl
        simp [Jm.shared, this]
  | succ i ih =>
    intro h1 h2
    obtain ⟨c, e1, e2⟩ := h1 0 (by omega)
    cases b with
    | nil => simp at e1
    | cons x b =>
      cases w with
      | nil => simp at e2
      | cons y w =>
        have ex : x = c := by simpa using e1
        have ey : y = c := by simpa using e2
        subst ex ey
        unfold Jm.shared
        rw [if_pos rfl, ih (fun j hj => by have := h1 (j + 1) (by omega); simpa using this) (fun c d hc hd => h2 c d (by simpa using hc) (by simpa using hd))]
theorem sb_get {z : Str} {i c : Nat} (h : z.cps[i]? = some c) : (sb z)[i]? = some (UInt8.ofNat c) := by
  unfold sb
  rw [List.getElem?_map, Array.getElem?_toList, h]
  rfl
theorem sb_len (z : Str) : (sb z).length = z.cps.size := by
  unfold sb
  rw [List.length_map, Array.length_toList]
theorem plain_lt {z : Str} (hp : Plain z) {i c : Nat} (h : z.cps[i]? = some c) : c < 128 := by
  have := Array.all_eq_true'.mp hp c (Array.mem_of_getElem? h)
  simpa using this
theorem byte_eq {x : UInt8} {c : Nat} (h : c < 128) : (x.toNat : Int) = (c : Int) ↔ x = UInt8.ofNat c := by
  constructor
  · intro e
    have e' : x.toNat = c := by omega
    rw [← e', UInt8.ofNat_toNat]
  · intro e
    rw [e, UInt8.toNat_ofNat']
    omega
theorem cut_eq {b : Bytes} {r m : Nat} (h : r ≤ b.length) : cutV (bL b) (some (r : Int)) (some ((r : Int) + (m : Int))) = bL ((b.drop r).take m) := by
  unfold cutV bL
  rw [List.length_map]
  have e1 : HT.sIx b.length 0 (some (r : Int)) = r := by rw [HT.sIx_nat]; omega
  have e2 : HT.sIx b.length b.length (some ((r : Int) + (m : Int))) = min (r + m) b.length := by
    have e : (r : Int) + (m : Int) = ((r + m : Nat) : Int) := by omega
    rw [e, HT.sIx_nat]
  rw [e1, e2, ← List.map_drop, ← List.map_take]
  congr 1
  rw [List.take_eq_take_iff, List.length_drop]
  omega
theorem scC : FnScope ["self", "signs", "shared", "byte", "sign"] ["self", "signs"] (defScope sCount) := ⟨rfl, rfl, rfl, by decide +kernel, rfl, by decide +kernel, by decide +kernel⟩
theorem ok_count {f C : Addr} {fd : FuncData} (F : Fun K "count_shared" "LineReader.count_shared" sCount f fd) (T : Txt K mg C) : FnOk P w K mg base CX0 1 f fd ["self", "signs"] (spCount C) := by
  refine F.ok scC (fun vs H Q E h => ?_) (fun cdv A outer s H vs Q E hr h => ?_)
  · obtain ⟨p, a, b, r, z, rfl, _⟩ := h
    rfl
  · obtain ⟨p, a, b, r, z, rfl, hR, hz, hzl, k⟩ := h
    obtain ⟨dx, hp⟩ := hR.ins
    refine ⟨_, pss_cons (ps_set (i := 2) scC.nd rfl (Or.inl rfl) pe_int)
      (pss_cons (ps_for PassesOwn.never rfl
        (pi_zipS rfl T.zip (pa_cons (pe_slice sl_list (pe_fld (pv 0) rfl) (po_some (pe_fld (pv 0) rfl)) (po_some (pe_op op_add (pe_fld (pv 0) rfl) (pe_callB call_len_str (by rfl) T.len PySem.boot_len (pa_cons (pv 1) pa_nil))))) (pa_cons (pv 1) pa_nil)))
        (pg_tup rfl (pgs_cons (pg_name (i := 3) scC.nd rfl (Or.inl rfl)) (pgs_cons (pg_name (i := 4) scC.nd rfl (Or.inl rfl)) pgs_nil)))
        (pss_cons (ps_if (pt_cmpR op_ne (pv 3) (pe_callB call_ord (by rfl) T.ord boot_ord5 (pa_cons (pv 4) pa_nil)) (nomark _)) (pss_one ps_break) pss_nil)
          (pss_one (ps_aug (i := 2) scC.nd rfl (Or.inl rfl) pe_int ip_add))))
      (pss_one (ps_ret (pv 2)))), ?_⟩
    -- the slice
    refine ⟨_, rfl, p, C, dx, _, _, rfl, hp, T.cl, T.nL, rf_line _ _, _, rfl, p, C, dx, _, _, rfl, hp, T.cl, T.nR, rf_right _ _, r, rfl, _, rfl, p, C, dx, _, _, rfl, hp, T.cl, T.nR, rf_right _ _, _, rfl, z, rfl, ?_, _, _, rfl, rfl, _, rfl, a, _, rfl, .inl (.inl hR.line), fun l hl => ?_⟩
    · show z.length ≤ sizeLine
      exact Nat.le_trans hzl (by decide)
    · have ecut : cutV (bL b) (some (r : Int)) (some ((r : Int) + ((z.length : Nat) : Int))) = bL ((b.drop r).take z.cps.size) := cut_eq hR.le
      rw [ecut]
      have sl : Same H (upd H l (.lst (bL ((b.drop r).take z.cps.size)))) := fun c o e => by rw [upd_ne (ne_of_none e hl)]; exact e
      refine ⟨_, rfl, l, z, _, rfl, SqL.of upd_same, hz, for_zipS (xs := bL ((b.drop r).take z.cps.size)) (fun i σ H' => ∃ v3 v4 : Option V, σ = [some (.ref p), some (.str z), some (.int (i : Nat)), v3, v4] ∧ Same H H' ∧ H' l = some (.lst (bL ((b.drop r).take z.cps.size))) ∧
          ∀ j, j < i → ∃ c, (b.drop r)[j]? = some c ∧ (sb z)[j]? = some c)
        ⟨none, none, rfl, sl, upd_same, fun j hj => absurd hj (Nat.not_lt_zero j)⟩ (fun i σ H' ⟨_, _, _, _, h, _⟩ => SqL.of h) ?_ ?_⟩
      · rintro i x c T' σ H' hx hc ⟨v3, v4, rfl, s1, h1, hall⟩ hT
        obtain ⟨cb, hcb, rfl⟩ := bL_get hx
        have hcb' : (b.drop r)[i]? = some cb := by
          rw [List.getElem?_take] at hcb
          split at hcb
          · exact hcb
          · cases hcb
        have s2 : Same H (upd H' T' (.tup [bV cb, .str ⟨#[c]⟩])) := s1.trans fun d o e => by rw [upd_ne (ne_of_none e hT)]; exact e
        refine ⟨T', _, rfl, SqT.of upd_same, rfl, _, _, rfl, _, _, rfl, rfl, _, rfl, _, rfl, _, rfl, rfl, rfl, _, rfl, ite2 (fun hne => ?_) fun hne => ?_⟩
        · have hd : cb ≠ UInt8.ofNat c := fun e => by
            have e2 := (byte_eq (plain_lt hz hc)).mpr e
            have e3 : bV cb = V.int ((c : Nat) : Int) := congrArg V.int e2
            have : (!decide (bV cb = V.int (((#[c] : Array Nat).getD 0 0 : Nat) : Int))) = true := hne
            rw [show ((#[c] : Array Nat).getD 0 0) = c from rfl, decide_eq_true e3] at this
            cases this
          have e := shared_ext hall fun c1 c2 h1 h2 => by
            rw [hcb'] at h1
            rw [sb_get hc] at h2
            cases h1; cases h2
            exact hd
          have q := k _ s2
          rw [e] at q
          exact ⟨_, rfl, q⟩
        · have he : cb = UInt8.ofNat c := by
            have : ¬ (!decide (bV cb = V.int (((#[c] : Array Nat).getD 0 0 : Nat) : Int))) = true := hne
            rw [show ((#[c] : Array Nat).getD 0 0) = c from rfl] at this
            have e3 : bV cb = V.int ((c : Nat) : Int) := by
              by_cases q : bV cb = V.int ((c : Nat) : Int)
              · exact q
              · rw [decide_eq_false q] at this
                exact absurd rfl this
            exact (byte_eq (plain_lt hz hc)).mp (V.int.inj e3)
          refine ⟨_, rfl, _, _, rfl, rfl, _, _, rfl, s2, ?_, fun j hj => ?_⟩
          · rw [upd_ne (ne_of_none h1 hT)]; exact h1
          · by_cases e : j = i
            · subst e
              exact ⟨cb, hcb', by rw [sb_get hc, he]⟩
            · exact hall j (by omega)
      · rintro i σ H' hend ⟨v3, v4, rfl, s1, h1, hall⟩
        have e := shared_ext hall fun c1 c2 h1 h2 => by
          exfalso
          have q1 := (List.getElem?_eq_some_iff.mp h1).1
          have q2 := (List.getElem?_eq_some_iff.mp h2).1
          rw [sb_len] at q2
          rw [bL_len, List.length_take] at hend
          omega
        have q := k _ s1
        rw [e] at q
        exact ⟨_, rfl, q⟩
end
end Hb
end

section
set_option Elab.async false
set_option linter.all false
set_option maxRecDepth 100000
set_option maxHeartbeats 4000000
namespace Hb
open PySem PySem.Spec PyProof.Rows L2
section
variable {P : Program} {w : World} {K : PySem.W.Frag} {mg : Str → Option Value} {base : Heap}
theorem dec_nat (a b : Nat) : decide (V.int (a : Int) = V.int (b : Int)) = decide (a = b) := by
  by_cases h : a = b
  · subst h; simp
  · rw [decide_eq_false h, decide_eq_false]
    intro q
    have := V.int.inj q
    omega
/-! ### read_signs -/
theorem scS : FnScope ["self", "signs", "shared"] ["self", "signs"] (defScope sSigns) := ⟨rfl, rfl, rfl, by decide +kernel, rfl, by decide +kernel, by decide +kernel⟩
theorem ok_signs {f C fc : Addr} {fd fdc : FuncData} (F : Fun K "read_signs" "LineReader.read_signs" sSigns f fd) (T : Txt K mg C) (FC : Fun K "count_shared" "LineReader.count_shared" sCount fc fdc) (bC : Binds K fdc ["self", "signs"] []) (mC : Meth K C "count_shared" fc) :
    FnOk P w K mg base CX0 2 f fd ["self", "signs"] (spSigns C) := by
  have GC : FnOk P w K mg base CX0 1 fc fdc ["self", "signs"] (spCount C) := ok_count FC T
  refine F.ok scS (fun vs H Q E h => ?_) (fun cdv A outer s H vs Q E hr h => ?_)
  · obtain ⟨p, a, b, r, z, rfl, _⟩ := h
    rfl
  · obtain ⟨p, a, b, r, z, rfl, hR, hz, hzl, k⟩ := h
    obtain ⟨dx, hp⟩ := hR.ins
    refine ⟨_, pss_cons (ps_set (i := 2) scS.nd rfl (Or.inl rfl) (pe_meth (pv 0) T.cl mC GC hr bC .nil pass0 (pa_cons (pv 1) pa_nil)))
      (pss_cons (ps_fldaug (pv 0) (pv 2) in_add)
      (pss_one (ps_ret (pe_cmpR op_eq (pv 2) (pe_callB call_len_str (by rfl) T.len PySem.boot_len (pa_cons (pv 1) pa_nil)) (nomark _))))), ?_⟩
    refine ⟨_, rfl, p, dx, _, rfl, hp, rf_no (by decide +kernel) (by decide +kernel), _, rfl, p, a, b, r, z, rfl, hR, hz, hzl, fun H1 s1 => ?_⟩
    have hp1 := s1 _ _ hp
    refine ⟨_, rfl, p, C, dx, _, _, rfl, hp1, T.cl, T.nR, rf_right _ _, _, rfl, _, _, rfl, rfl, dx, _, hp1, (by show 2 < 1000; decide), ?_⟩
    refine ⟨_, rfl, _, rfl, z, rfl, ?_, rfl, ?_⟩
    · exact Nat.le_trans hzl (by decide)
    · have q := k (upd H1 p (.ins C dx (rf a (r + Jm.shared (b.drop r) (sb z))))) ⟨⟨dx, upd_same⟩, by rw [upd_ne hR.ne]; exact s1 _ _ hR.line, by have := Jm.shared_le_b (b.drop r) (sb z); rw [List.length_drop] at this; have := hR.le; omega, hR.small⟩
        fun c o e n => by rw [upd_ne n]; exact s1 _ _ e
      have e : decide (V.int (Jm.shared (b.drop r) (sb z) : Nat) = V.int (z.length : Nat)) = decide (Jm.shared (b.drop r) (sb z) = (sb z).length) := by
        rw [dec_nat, sb_len]
        rfl
      show Q (V.bl (decide (V.int (Jm.shared (b.drop r) (sb z) : Nat) = V.int (z.length : Nat)))) _
      rw [e]
      exact q
/-! ### figure_ahead -/
theorem scF : FnScope ["self", "figure"] ["self"] (defScope sFig) := ⟨rfl, rfl, rfl, by decide +kernel, rfl, by decide +kernel, by decide +kernel⟩
theorem ok_fig {f C : Addr} {fd : FuncData} (F : Fun K "figure_ahead" "LineReader.figure_ahead" sFig f fd) (T : Txt K mg C) : FnOk P w K mg base CX0 1 f fd ["self"] (spFig C) := by
  refine F.ok scF (fun vs H Q E h => ?_) (fun cdv A outer s H vs Q E hr h => ?_)
  · obtain ⟨p, a, b, r, rfl, _⟩ := h
    rfl
  · obtain ⟨p, a, b, r, rfl, hR, k⟩ := h
    obtain ⟨dx, hp⟩ := hR.ins
    refine ⟨_, pss_cons (ps_if (pt_cmpR op_eq (pe_fld (pv 0) rfl) (pe_callB call_len_seq (by rfl) T.len PySem.boot_len (pa_cons (pe_fld (pv 0) rfl) pa_nil)) (nomark _)) (pss_one (ps_ret (pe_un un_neg pe_int))) pss_nil)
      (pss_cons (ps_set (i := 1) scF.nd rfl (Or.inl rfl) (pe_op op_sub (pe_ix ix_list (pe_fld (pv 0) rfl) (pe_fld (pv 0) rfl) (fun _ _ => rfl)) (pe_callB call_ord (by rfl) T.ord boot_ord5 (pa_cons pe_str pa_nil))))
      (pss_one (ps_ret (pe_ifExp (pt_chain op_le op_le pe_int (pv 1) pe_int) (pv 1) (pe_un un_neg pe_int))))), ?_⟩
    refine ⟨_, rfl, p, C, dx, _, _, rfl, hp, T.cl, T.nR, rf_right _ _, _, rfl, p, C, dx, _, _, rfl, hp, T.cl, T.nL, rf_line _ _, a, _, rfl, .inl (SqL.of hR.line), rfl, _, rfl, ite2 (fun he => ?_) fun he => ?_⟩
    · have he' : r = b.length := by
        have e1 : V.int (r : Int) = V.int ((bL b).length : Nat) := of_decide_eq_true he
        have e2 := V.int.inj e1
        rw [bL_len] at e2
        omega
      have e0 : b.drop r = [] := by rw [he']; simp
      rw [e0] at k
      exact ⟨_, rfl, k⟩
    · have he' : r < b.length := by
        have e1 : ¬ V.int (r : Int) = V.int ((bL b).length : Nat) := fun q => he (decide_eq_true q)
        rw [bL_len] at e1
        have := hR.le
        by_cases q : r = b.length
        · subst q; exact absurd rfl e1
        · omega
      obtain ⟨c, hc⟩ : ∃ c, b[r]? = some c := ⟨_, List.getElem?_eq_getElem he'⟩
      have ed : b.drop r = c :: b.drop (r + 1) := by
        obtain ⟨h1, h2⟩ := List.getElem?_eq_some_iff.mp hc
        rw [List.drop_eq_getElem_cons h1, h2]
      have hat : atI (bL b) (r : Int) = some (bV c) := atI_nat (by unfold bL; rw [List.getElem?_map, hc]; rfl)
      refine ⟨_, rfl, p, C, dx, _, _, rfl, hp, T.cl, T.nL, rf_line _ _, _, rfl, p, C, dx, _, _, rfl, hp, T.cl, T.nR, rf_right _ _, a, _, _, _, rfl, rfl, SqL.of hR.line, hat, _, rfl, rfl, _, _, rfl, rfl, ?_⟩
      rw [ed] at k
      have k' : Q (.int (if Jm.isDig c = true then (Jm.dig c : Int) else -1)) H := k
      have e48 : ((Str.ofString "0").cps.getD 0 0 : Nat) = 48 := by decide +kernel
      have dig : Jm.isDig c = true ↔ (0 : Int) ≤ (c.toNat : Int) - 48 ∧ (c.toNat : Int) - 48 ≤ 9 := by
        unfold Jm.isDig
        simp
        omega
      generalize (Str.ofString "0").cps.getD 0 0 = z0 at e48
      subst e48
      refine ⟨_, rfl, _, _, rfl, rfl, _, rfl, ite2 (fun h0 => ?_) fun h0 => ?_⟩
      · have h0' : (0 : Int) ≤ (c.toNat : Int) - 48 := of_decide_eq_true h0
        refine ⟨_, _, rfl, rfl, _, rfl, ite2 (fun h9 => ?_) fun h9 => ?_⟩
        · have h9' : (c.toNat : Int) - 48 ≤ 9 := of_decide_eq_true h9
          rw [if_pos (dig.mpr ⟨h0', h9'⟩)] at k'
          refine ⟨_, rfl, ?_⟩
          have e : ((Jm.dig c : Nat) : Int) = (c.toNat : Int) - 48 := by
            unfold Jm.dig
            omega
          rw [e] at k'
          exact k'
        · have h9' : ¬ (c.toNat : Int) - 48 ≤ 9 := fun q => h9 (decide_eq_true q)
          rw [if_neg fun q => h9' (dig.mp q).2] at k'
          exact ⟨_, rfl, k'⟩
      · have h0' : ¬ (0 : Int) ≤ (c.toNat : Int) - 48 := fun q => h0 (decide_eq_true q)
        rw [if_neg fun q => h0' (dig.mp q).1] at k'
        exact ⟨_, rfl, iteF ⟨_, rfl, k'⟩⟩
/-! ### read_number -/
theorem fig_cons (c : UInt8) (l : Bytes) : fig (c :: l) = if Jm.isDig c = true then (Jm.dig c : Int) else -1 := rfl
theorem numGo_zero (g : Nat) (l : Bytes) : Jm.numGo g 0 l = (0, 0) := by
  cases l <;> simp [Jm.numGo]
theorem fig_neg {l : Bytes} (h : fig l < 0) (g n : Nat) : Jm.numGo g n l = (n, 0) := by
  cases l with
  | nil => rfl
  | cons c l =>
    have hd : Jm.isDig c = false := by
      cases e : Jm.isDig c with
      | false => rfl
      | true =>
        rw [fig_cons, if_pos e] at h
        omega
    simp [Jm.numGo, hd]
theorem fig_pos {l : Bytes} (h : ¬ fig l < 0) : ∃ c r, l = c :: r ∧ Jm.isDig c = true ∧ fig l = (Jm.dig c : Int) := by
  cases l with
  | nil => exact absurd (show (-1 : Int) < 0 by decide) h
  | cons c l =>
    cases e : Jm.isDig c with
    | false =>
      rw [fig_cons, e] at h
      exact absurd (show (-1 : Int) < 0 by decide) h
    | true =>
      refine ⟨c, l, rfl, e, ?_⟩
      rw [fig_cons, if_pos e]
theorem numGo_more {g n : Nat} {c : UInt8} {r : Bytes} (h0 : 0 < n) (hd : Jm.isDig c = true) (hg : n * 10 + Jm.dig c ≤ g) : Jm.numGo g n (c :: r) = ((Jm.numGo g (n * 10 + Jm.dig c) r).1, (Jm.numGo g (n * 10 + Jm.dig c) r).2 + 1) := by
  conv => lhs; unfold Jm.numGo
  rw [if_pos ⟨h0, hd, hg⟩]
theorem numGo_stop {g n : Nat} {c : UInt8} {r : Bytes} (hg : ¬ n * 10 + Jm.dig c ≤ g) : Jm.numGo g n (c :: r) = (n, 0) := by
  conv => lhs; unfold Jm.numGo
  rw [if_neg fun q => hg q.2.2]
theorem scN : FnScope ["self", "greatest", "number", "figure"] ["self", "greatest"] (defScope sNum) := ⟨rfl, rfl, rfl, by decide +kernel, rfl, by decide +kernel, by decide +kernel⟩
theorem ok_num {f C ff : Addr} {fd fdf : FuncData} (F : Fun K "read_number" "LineReader.read_number" sNum f fd) (T : Txt K mg C) (FF : Fun K "figure_ahead" "LineReader.figure_ahead" sFig ff fdf) (bF : Binds K fdf ["self"] []) (mF : Meth K C "figure_ahead" ff) :
    FnOk P w K mg base CX0 2 f fd ["self", "greatest"] (spNum C) := by
  have GF : FnOk P w K mg base CX0 1 ff fdf ["self"] (spFig C) := ok_fig FF T
  refine F.ok scN (fun vs H Q E h => ?_) (fun cdv A outer s H vs Q E hr h => ?_)
  · obtain ⟨p, a, b, r, g, rfl, _⟩ := h
    rfl
  · obtain ⟨p, a, b, r, g, rfl, hR, hg9, hg, kn, ks⟩ := h
    obtain ⟨dx, hp⟩ := hR.ins
    have noF : ∀ {a : Addr} {r : Nat}, (rf a r).lookup ("figure_ahead" : Str) = none := rf_no (by decide +kernel) (by decide +kernel)
    refine ⟨_, pss_cons (ps_set (i := 2) scN.nd rfl (Or.inl rfl) (pe_meth0 (pv 0) T.cl mF GF hr bF .nil pass0))
      (pss_cons (ps_if (pt_cmpR op_lt (pv 2) pe_int (nomark _)) (pss_one (ps_ret pe_non)) pss_nil)
      (pss_cons (ps_fldaug (pv 0) pe_int in_add)
      (pss_cons (ps_while PassesOwn.never (pt_cmpR op_gt (pv 2) pe_int (nomark _))
        (pss_cons (ps_set (i := 3) scN.nd rfl (Or.inl rfl) (pe_meth0 (pv 0) T.cl mF GF hr bF .nil pass0))
        (pss_cons (ps_if (PW.pt (pw_or (pt_cmpR op_lt (pv 3) pe_int (nomark _)) (pw_or1 (pt_cmpR op_gt (pe_op op_add (pe_op op_mul (pv 2) pe_int) (pv 3)) (pv 1) (nomark _))))) (pss_one ps_break) pss_nil)
        (pss_cons (ps_set (i := 2) scN.nd rfl (Or.inl rfl) (pe_op op_add (pe_op op_mul (pv 2) pe_int) (pv 3)))
        (pss_one (ps_fldaug (pv 0) pe_int in_add))))))
      (pss_one (ps_ret (pv 2)))))), ?_⟩
    refine ⟨_, rfl, p, dx, _, rfl, hp, noF, p, a, b, r, rfl, hR, ?_⟩
    refine ⟨_, rfl, _, _, rfl, rfl, _, rfl, ite2 (fun hneg => ?_) fun hneg => ?_⟩
    · have hneg' : fig (b.drop r) < 0 := of_decide_eq_true hneg
      refine kn ?_
      cases e : b.drop r with
      | nil => rfl
      | cons c l =>
        rw [Jm.readNum_cons, if_neg]
        intro hd
        rw [e] at hneg'
        rw [fig_cons, if_pos hd] at hneg'
        omega
    · have hneg' : ¬ fig (b.drop r) < 0 := fun q => hneg (decide_eq_true q)
      obtain ⟨c0, r1, e0, hd0, ef⟩ := fig_pos hneg'
      have hrl : r < b.length := by
        have := congrArg List.length e0
        simp at this
        omega
      refine ⟨_, rfl, p, C, dx, _, _, rfl, hp, T.cl, T.nR, rf_right _ _, _, _, rfl, rfl, dx, _, hp, (by show 2 < 1000; decide), ?_⟩
      have hread : Jm.readNum g (b.drop r) = some ((Jm.numGo g (Jm.dig c0) r1).1, (Jm.numGo g (Jm.dig c0) r1).2 + 1) := by
        rw [e0, Jm.readNum_cons, if_pos hd0]
      have fin := ks _ _ hread
      refine while_by (fun σ H' => ∃ (n c : Nat) (v3 : Option V), σ = [some (.ref p), some (.int (g : Nat)), some (.int (n : Nat)), v3] ∧ RdAt C H' p a b (r + (c + 1)) ∧ n ≤ g ∧ But p H H' ∧ Jm.numGo g (Jm.dig c0) r1 = ((Jm.numGo g n (r1.drop c)).1, (Jm.numGo g n (r1.drop c)).2 + c))
        (fun σ H' => match H' p with | some (.ins _ _ [_, (_, .int i)]) => b.length - i.toNat | _ => 0) ?_ ?_ ?_
      · refine ⟨Jm.dig c0, 0, none, ?_, ⟨⟨dx, upd_same⟩, by rw [upd_ne hR.ne]; exact hR.line, by omega, hR.small⟩, by have := Jm.dig_lt hd0; omega, fun d o e n => by rw [upd_ne n]; exact e, rfl⟩
        show ([some (V.ref p), some (V.int (g : Nat)), some (V.int (fig (b.drop r))), none] : List (Option V)) = _
        rw [ef]
      · rintro σ H' ⟨n, c, v3, rfl, hR', hn, hbut, hgo⟩
        obtain ⟨dx', hp'⟩ := hR'.ins
        refine ⟨_, rfl, _, _, rfl, rfl, _, rfl, ite2 (fun hpos => ?_) fun hpos => ?_⟩
        · have hpos' : 0 < n := by
            have : (0 : Int) < (n : Nat) := of_decide_eq_true hpos
            omega
          have edrop : b.drop (r + (c + 1)) = r1.drop c := by
            have : b.drop (r + (c + 1)) = (b.drop r).drop (c + 1) := by rw [List.drop_drop]
            rw [this, e0, List.drop_succ_cons]
          refine ⟨_, rfl, p, dx', _, rfl, hp', noF, p, a, b, r + (c + 1), rfl, hR', ?_⟩
          rw [edrop]
          have stop : Jm.numGo g n (r1.drop c) = (n, 0) → ∀ v3 : Option V, tRet (tVar 2) { nx := fun x H' => Q V.non H', rt := Q } [some (V.ref p), some (V.int (g : Nat)), some (V.int (n : Nat)), v3] H' := fun e1 v3 => by
            rw [e1] at hgo
            have q := fin H' (by rw [hgo]; show RdAt C H' p a b (r + (0 + c + 1)); rw [Nat.zero_add]; exact hR') hbut
            rw [hgo] at q
            exact ⟨_, rfl, q⟩
          refine ⟨_, rfl, _, _, rfl, rfl, _, rfl, ite2 (fun hf => iteT ?_) fun hf => ?_⟩
          · exact stop (fig_neg (of_decide_eq_true hf) g n) _
          · have hf' : ¬ fig (r1.drop c) < 0 := fun q => hf (decide_eq_true q)
            obtain ⟨c2, r2, e2, hd2, ef2⟩ := fig_pos hf'
            have hb : -(2 ^ 64 : Int) < (n : Nat) ∧ ((n : Nat) : Int) < 2 ^ 64 := ⟨by omega, by omega⟩
            refine ⟨_, rfl, _, _, rfl, rfl, .inl hb, _, rfl, _, _, rfl, rfl, _, rfl, _, _, rfl, rfl, _, rfl, ite2 (fun hgt => ?_) fun hgt => ?_⟩
            · have hgt' : ((g : Nat) : Int) < (n : Nat) * 10 + fig (r1.drop c) := of_decide_eq_true hgt
              rw [ef2] at hgt'
              refine stop ?_ _
              rw [e2]
              exact numGo_stop (by omega)
            · have hle' : ¬ ((g : Nat) : Int) < (n : Nat) * 10 + fig (r1.drop c) := fun q => hgt (decide_eq_true q)
              rw [ef2] at hle'
              have hle : n * 10 + Jm.dig c2 ≤ g := by omega
              refine ⟨_, rfl, _, _, rfl, rfl, .inl hb, _, rfl, _, _, rfl, rfl, ?_⟩
              refine ⟨_, rfl, p, C, dx', _, _, rfl, hp', T.cl, T.nR, rf_right _ _, _, _, rfl, rfl, dx', _, hp', (by show 2 < 1000; decide), ?_⟩
              have hlen : r + (c + 1) < b.length := by
                have := congrArg List.length e2
                rw [← edrop] at this
                simp at this
                omega
              refine ⟨⟨n * 10 + Jm.dig c2, c + 1, some (.int (fig (r1.drop c))), ?_, ⟨⟨dx', upd_same⟩, by rw [upd_ne hR.ne]; exact hR'.line, by omega, hR.small⟩, hle, fun d o e nd => by rw [upd_ne nd]; exact hbut d o e nd, ?_⟩, ?_⟩
              · show ([some (V.ref p), some (V.int (g : Nat)), some (V.int (((n : Nat) : Int) * 10 + fig (r1.drop c))), some (.int (fig (r1.drop c)))] : List (Option V)) = _
                rw [ef2]
                rfl
              · rw [hgo, e2, numGo_more hpos' hd2 hle]
                have : r1.drop (c + 1) = r2 := by
                  have h := congrArg (List.drop 1) e2
                  rw [List.drop_drop] at h
                  simpa using h
                rw [this]
                simp
                omega
              · show (match (upd H' p (.ins C dx' (rf a (r + (c + 1) + 1)))) p with | some (.ins _ _ [_, (_, .int i)]) => b.length - i.toNat | _ => 0) < (match H' p with | some (.ins _ _ [_, (_, .int i)]) => b.length - i.toNat | _ => 0)
                rw [upd_same, hp']
                show b.length - (((r + (c + 1) + 1 : Nat) : Int)).toNat < b.length - (((r + (c + 1) : Nat) : Int)).toNat
                rw [Int.toNat_natCast, Int.toNat_natCast]
                omega
        · have hpos' : n = 0 := by
            have : ¬ (0 : Int) < (n : Nat) := fun q => hpos (decide_eq_true q)
            omega
          subst hpos'
          rw [numGo_zero] at hgo
          have q := fin H' (by rw [hgo]; show RdAt C H' p a b (r + (0 + c + 1)); rw [Nat.zero_add]; exact hR') hbut
          rw [hgo] at q
          exact ⟨_, rfl, q⟩
      · rintro σ H' Q1 Q2 hQ ⟨v, e, i, j, e1, e2, k, e3, q⟩
        exact ⟨v, e, i, j, e1, e2, k, e3, hQ _ _ q⟩
end
end Hb
end

section
set_option Elab.async false
set_option linter.all false
set_option maxRecDepth 100000
set_option maxHeartbeats 4000000
namespace Hb
open PySem PySem.Spec PyProof.Rows L2
/-! ### what the top has written: kinds of hubs -/
def KTup (K : PySem.W.Frag) (a : Addr) (xs : List V) : Prop := ∃ (o : Obj) (its : Array Value) (n : Nat), K.lookup a = some o ∧ o.cls = .type "tuple" ∧ o.data = .seq its n ∧ its.size ≤ sizeLine ∧ Vals xs its.toList
theorem KTup.sq {K : PySem.W.Frag} {a : Addr} {xs : List V} (h : KTup K a xs) {H : Hp} : SqT K H a xs := .inr h
def nV (l : List Nat) : List V := l.map fun (g : Nat) => V.int (g : Int)
structure Kinds (K : PySem.W.Frag) (a : Addr) (word : Nat → Str) (nums : Nat → List Nat) : Prop where
  ex : ∃ ts ns : List Addr, ts.length = 8 ∧ ns.length = 8 ∧ KTup K a (ts.map V.ref) ∧ ∀ (k : Nat) (t n : Addr), ts[k]? = some t → ns[k]? = some n → KTup K t [.str (word k), .ref n] ∧ KTup K n (nV (nums k))
  plain : ∀ k, k < 8 → Plain (word k) ∧ (word k).cps.size ≤ 100
  rng : ∀ k, k < 8 → ∀ g ∈ nums k, 9 ≤ g ∧ g < 256
  few : ∀ k, k < 8 → (nums k).length ≤ 2
def blank : Str := " "
/-- where the lambda's code lies -/
structure Tb where
  P : Addr
  lp : Pos
  lq : Str
abbrev Tab (t : Tb) (H : Hp) : Prop := TabAt t.P t.lp t.lq H
def ButT (p : Addr) (H H' : Hp) : Prop := ∀ b o, H b = some o → b ≠ p → NoTbl o → H' b = some o
theorem ButT.trans {p : Addr} {H H1 H2 : Hp} (a : ButT p H H1) (b : ButT p H1 H2) : ButT p H H2 := fun c o e n t => b c o (a c o e n t) n t
theorem But.t {p : Addr} {H H' : Hp} (h : But p H H') : ButT p H H' := fun b o e n _ => h b o e n
theorem But.tab {t : Tb} {p : Addr} {H H' : Hp} {C dx : Addr} {fs : List (Str × V)} (h : But p H H') (hp : H p = some (.ins C dx fs)) (ht : Tab t H) : Tab t H' := by
  obtain ⟨ps, e, r⟩ := ht
  refine ⟨ps, h _ _ e (ne_of e hp (by intro q; cases q)), ?_⟩
  rcases r with r | ⟨c, r1, r2⟩
  · exact .inl r
  · exact .inr ⟨c, r1, h _ _ r2 (ne_of r2 hp (by intro q; cases q))⟩
theorem TabAt.list {P : Addr} {lp : Pos} {lq : Str} {H : Hp} {l : Addr} {xs ys : List V} (h : TabAt P lp lq H) (hl : H l = some (.lst xs)) : TabAt P lp lq (upd H l (.lst ys)) := by
  obtain ⟨ps, e, r⟩ := h
  refine ⟨ps, by rw [upd_ne (ne_of e hl (by intro q; cases q))]; exact e, ?_⟩
  rcases r with r | ⟨c, r1, r2⟩
  · exact .inl r
  · exact .inr ⟨c, r1, by rw [upd_ne (ne_of r2 hl (by intro q; cases q))]; exact r2⟩
/-- what the program reads of a hub -/
def hubOf (word : Nat → Str) (nums : Nat → List Nat) (b : Bytes) : Nat × List Nat × Bool :=
  Jm.go (.word (sb (word (Jm.pick (fun k => sb (word k)) b))) :: Jm.numParts (nums (Jm.pick (fun k => sb (word k)) b))) b
def spHub (K : PySem.W.Frag) (C : Addr) (t : Tb) : Sp := fun vs H Q _ => ∃ (p a ak : Addr) (b : Bytes) (r : Nat) (word : Nat → Str) (nums : Nat → List Nat), vs = [.ref p, .ref ak] ∧ RdAt C H p a b r ∧ Kinds K ak word nums ∧ Tab t H ∧
  ∀ H' : Hp, RdAt C H' p a b (r + (hubOf word nums (b.drop r)).1) → ButT p H H' → Tab t H' →
    ((hubOf word nums (b.drop r)).2.2 = false → Q .non H') ∧
    ((hubOf word nums (b.drop r)).2.2 = true → ∀ q, H' q = some (.tup (.str (word (Jm.pick (fun k => sb (word k)) (b.drop r))) :: nV (hubOf word nums (b.drop r)).2.1)) → Q (.ref q) H')
/-- a def of the text, the code's address known -/
structure FunC (K : PySem.W.Frag) (x qual : Str) (st : Stmt) (f : Addr) (fd : FuncData) (c0 : Addr) : Prop where
  ex : ∃ (oc : Value) (od : Option Addr) (kV doc pm : Value) (an : Option Addr) (ct : Value) (osl : Array (Option Value)),
    fd = PySem.W.fnOf x qual (defArgs st) (defBody st) (defScope st) .none kV doc pm an (.ref c0) ct ∧ K.lookup f = some ⟨oc, od, .func fd, osl⟩ ∧ PySem.W.codeIn K (.ref c0) qual = true
  kp : PySem.W.keepIn K (.ref f) = true
theorem FunC.fn {K : PySem.W.Frag} {x qual : Str} {st : Stmt} {f : Addr} {fd : FuncData} {c0 : Addr} (F : FunC K x qual st f fd c0) : Fun K x qual st f fd := by
  obtain ⟨oc, od, kV, doc, pm, an, ct, osl, e, lk, hcd⟩ := F.ex
  exact ⟨⟨oc, od, kV, doc, pm, an, _, ct, osl, e, lk, hcd⟩, F.kp⟩
structure TxtH (base : Heap) (K : PySem.W.Frag) (mg : Str → Option Value) (t : Tb) (c0 : Addr) : Prop where
  tab : TabK base K mg c0 t.P
  max : mg "max" = none
  tup : mg "tuple" = none
theorem boot_tuple5 : bootBuiltins "tuple" = some (.type "tuple") := by decide +kernel
theorem nV_get {l : List Nat} {j : Nat} {x : V} (h : (nV l)[j]? = some x) : ∃ g, l[j]? = some g ∧ x = .int (g : Nat) := by
  unfold nV at h
  rw [List.getElem?_map] at h
  cases e : l[j]? with
  | none => rw [e] at h; cases h
  | some g => rw [e] at h; exact ⟨g, rfl, (Option.some.inj h).symm⟩
theorem nV_snoc (l : List Nat) (n : Nat) : nV (l ++ [n]) = nV l ++ [.int (n : Nat)] := by
  unfold nV
  rw [List.map_append]
  rfl
theorem ref_get {l : List Addr} {j : Nat} {x : V} (h : (l.map V.ref)[j]? = some x) : ∃ a, l[j]? = some a ∧ x = .ref a := by
  rw [List.getElem?_map] at h
  cases e : l[j]? with
  | none => rw [e] at h; cases h
  | some g => rw [e] at h; exact ⟨g, rfl, (Option.some.inj h).symm⟩
theorem drop_get {α : Type} {l : List α} {j : Nat} {x : α} (h : l[j]? = some x) : l.drop j = x :: l.drop (j + 1) := by
  obtain ⟨h1, h2⟩ := List.getElem?_eq_some_iff.mp h
  rw [List.drop_eq_getElem_cons h1, h2]
theorem blank_sb : sb " " = [32] := by decide +kernel
theorem blank_plain : Plain " " := by unfold Plain; decide +kernel
section
variable {P : Program} {w : World} {K : PySem.W.Frag} {mg : Str → Option Value} {base : Heap}
theorem FunC.ok {x qual : Str} {st : Stmt} {f c0 : Addr} {fd : FuncData} {N ps : List Str} {k : Nat} {sp : Sp} (F : FunC K x qual st f fd c0) (S : FnScope N ps (defScope st)) (len : ∀ vs H Q E, sp vs H Q E → vs.length = ps.length)
    (hbody : ∀ (A : Around) (outer : List Env) (s : Shared) (H : Hp) (vs : List V) (Q : VK) (E : XK), Room k (A.deeper (envOfC qual (defScope st) s.heap.objs.size f (.ref c0))) → sp vs H Q E →
      ∃ t, PSs (cxOf CX0 P w K mg base N qual (defScope st) f (.ref c0) A outer s H E).nox (defBody st) t ∧ t { nx := fun _ H' => Q .non H', rt := Q } (start N vs) H) : FnOk P w K mg base CX0 (k + 1) f fd ps sp := by
  obtain ⟨oc, od, kV, doc, pm, an, ct, osl, rfl, lk, hcd⟩ := F.ex
  refine fn_of lk hcd S len fun A outer s H vs Q E hr hsp => ?_
  obtain ⟨t, h, q⟩ := hbody A outer s H vs Q E hr hsp
  exact ⟨t, h.nox, q⟩
theorem scH : FnScope ["self", "kinds", "kind", "hub", "greatest", "number"] ["self", "kinds"] (defScope sHub) := ⟨rfl, rfl, rfl, by decide +kernel, rfl, by decide +kernel, by decide +kernel⟩
/-- the lambda, as it is written -/
def lamOf (st : Stmt) : Expr := match defBody st with
  | .Assign _ (.Call _ _ [⟨_, e, _⟩] _) _ :: _ => e
  | _ => .Constant .none 0 ⟨0, 0, 0, 0⟩
def lamPos (e : Expr) : Pos := match e with
  | .Lambda _ _ _ p => p
  | _ => ⟨0, 0, 0, 0⟩
def lamScope (e : Expr) : Scope := match e with
  | .Lambda _ _ sc _ => sc
  | _ => { kind := .function, names := [], isGenerator := false, isCoroutine := false }
theorem lam_names : (lamScope (lamOf sHub)).names = [(("known" : Str), NameKind.local), (("self" : Str), NameKind.free)] := rfl
theorem lam_closure {env : Env} {c : Addr} (h : env.cells.lookup ("self" : Str) = some c) : closureFor (lamScope (lamOf sHub)) env = pure [(("self" : Str), c)] := by
  rw [closure_ok fun y hy hf => ?_]
  · rw [lam_names]
    show pure [(("self" : Str), (env.cells.lookup ("self" : Str)).getD 0)] = _
    rw [h]
    rfl
  · rw [lam_names] at hy
    rcases List.mem_cons.mp hy with e | e
    · rw [e] at hf; cases hf
    · rw [List.mem_singleton.mp e]; exact ⟨c, h⟩
theorem lam_free : ∀ z, (lamScope (lamOf sHub)).names.lookup z = some .free → z = "self" := by
  intro z h
  rw [lam_names, List.lookup_cons] at h
  cases e1 : z == ("known" : Str) with
  | true => rw [e1] at h; cases h
  | false =>
    rw [e1, List.lookup_cons] at h
    cases e2 : z == ("self" : Str) with
    | true => exact eq_of_beq e2
    | false => rw [e2] at h; cases h
/-- the lambda's reading -/
def tLam (K : PySem.W.Frag) (C : Addr) : TE := tMeth C "count_shared" (spCount C) [] E0 (tVar 1) (tCons (tOp (rIxT K) (tVar 0) (tC (.int 0))) tNil)
abbrev hubQual : Str := "LineReader.read_hub"
theorem ok_hub {f C fc fs fn c0 : Addr} {fd fdc fds fdn : FuncData} {tb : Tb} (F : FunC K "read_hub" hubQual sHub f fd c0) (T : Txt K mg C) (TH : TxtH base K mg tb c0) (hlp : tb.lp = lamPos (lamOf sHub)) (hlq : tb.lq = hubQual ++ ".<locals>." ++ "<lambda>")
    (FC : Fun K "count_shared" "LineReader.count_shared" sCount fc fdc) (bC : Binds K fdc ["self", "signs"] []) (mC : Meth K C "count_shared" fc)
    (GS : FnOk P w K mg base CX0 2 fs fds ["self", "signs"] (spSigns C)) (bS : Binds K fds ["self", "signs"] []) (mS : Meth K C "read_signs" fs)
    (GN : FnOk P w K mg base CX0 2 fn fdn ["self", "greatest"] (spNum C)) (bN : Binds K fdn ["self", "greatest"] []) (mN : Meth K C "read_number" fn) :
    FnOk P w K mg base CX0 6 f fd ["self", "kinds"] (spHub K C tb) := by
  have GC : FnOk P w K mg base CX0 1 fc fdc ["self", "signs"] (spCount C) := ok_count FC T
  refine F.ok scH (fun vs H Q E h => ?_) (fun A outer s H vs Q E hr h => ?_)
  · obtain ⟨p, a, ak, b, r, word, nums, rfl, _⟩ := h
    rfl
  · obtain ⟨p, a, ak, b, r, word, nums, rfl, hR, hK, hT, k⟩ := h
    obtain ⟨dx, hp⟩ := hR.ins
    obtain ⟨ts, ns, lt, ln, kt, kk⟩ := hK.ex
    obtain ⟨tP, tlp, tlq⟩ := tb
    have hlp : tlp = lamPos (lamOf sHub) := hlp
    have hlq : tlq = hubQual ++ ".<locals>." ++ "<lambda>" := hlq
    subst hlp hlq
    have hr2 : Room 2 (A.deeper (envOfC hubQual (defScope sHub) s.heap.objs.size f (.ref c0))) := hr.mono (by decide)
    have no1 : ∀ {a : Addr} {r : Nat}, (rf a r).lookup ("count_shared" : Str) = none := rf_no (by decide +kernel) (by decide +kernel)
    have no2 : ∀ {a : Addr} {r : Nat}, (rf a r).lookup ("read_signs" : Str) = none := rf_no (by decide +kernel) (by decide +kernel)
    have no3 : ∀ {a : Addr} {r : Nat}, (rf a r).lookup ("read_number" : Str) = none := rf_no (by decide +kernel) (by decide +kernel)
    have hRl : ∀ (f' c c' : Addr) (s' : Shared) (H' : Hp), Room 1 ((A.deeper (envOfC hubQual (defScope sHub) s.heap.objs.size f (.ref c0))).in1.deeper (PySem.W.envX (hubQual ++ ".<locals>." ++ "<lambda>") (lamScope (lamOf sHub)) s'.heap.objs.size f' (.ref c') [("self", c)])) := fun f' c c' s' H' => ((hr.mono (show 3 ≤ 5 by decide)).in1).deeper _
    refine ⟨_, pss_cons (ps_set (i := 2) scH.nd rfl (Or.inl rfl) (pe_maxLam (tb := tLam K C) (x := "known") (y := "self") (iy := 0) (P := tP) rfl hr.depth rfl TH.max TH.tab rfl (pv 1) rfl rfl rfl rfl rfl rfl rfl (by decide +kernel) lam_free rfl
        (fun c hc => lam_closure hc) (fun _ _ _ _ _ => rfl)
        (fun f' c c' s' H' => by exact pe_meth (pv 1) T.cl mC GC (hRl f' c c' s' H') bC .nil pass0 (pa_cons (pe_ix ix_tup (pv 0) pe_int (fun _ _ => rfl)) pa_nil))))
      (pss_cons (ps_if (pt_not (pt_val (pe_meth (pv 0) T.cl mS GS hr2 bS .nil pass0 (pa_cons (pe_ix ix_tup (pv 2) pe_int (fun _ _ => rfl)) pa_nil)))) (pss_one (ps_ret pe_non)) pss_nil)
      (pss_cons (ps_set (i := 3) scH.nd rfl (Or.inl rfl) (pe_lst (pa_cons (pe_ix ix_tup (pv 2) pe_int (fun _ _ => rfl)) pa_nil)))
      (pss_cons (ps_for PassesOwn.never rfl (pi_tup (pe_ix ix_tup (pv 2) pe_int (fun _ _ => rfl))) (pg_name (i := 4) scH.nd rfl (Or.inl rfl))
        (pss_cons (ps_if (pt_not (pt_val (pe_meth (pv 0) T.cl mS GS hr2 bS .nil pass0 (pa_cons pe_str pa_nil)))) (pss_one (ps_ret pe_non)) pss_nil)
        (pss_cons (ps_set (i := 5) scH.nd rfl (Or.inl rfl) (pe_meth (pv 0) T.cl mN GN hr2 bN .nil pass0 (pa_cons (pv 4) pa_nil)))
        (pss_cons (ps_if (pt_cmp (pc_isN (pv 5))) (pss_one (ps_ret pe_non)) pss_nil)
        (pss_one (ps_expr (pe_bm PySem.F.plainAttrs_list PySem.F.slot_list_append PySem.F.type_list_append mt_append (pv 3) (pa_cons (pv 5) pa_nil))))))))
      (pss_one (ps_ret (pe_callTy call_tuple_of (by rfl) TH.tup boot_tuple5 (pa_cons (pv 3) pa_nil))))))), ?_⟩
    have spaceTab : Tab ⟨tP, lamPos (lamOf sHub), hubQual ++ ".<locals>." ++ "<lambda>"⟩ H := hT
    refine ⟨_, rfl, ak, ts.map V.ref, fun i => ((Jm.shared (b.drop r) (sb (word i)) : Nat) : Int), .ref p, rfl, rfl, (by rw [List.length_map, lt]; decide), hT, fun H2 sT hT2 => ⟨kt.sq, fun i x H3 hx s3 => ?_, fun i x H3 hx hbest s3 => ?_⟩⟩
    · obtain ⟨t, ht, rfl⟩ := ref_get hx
      have hi : i < 8 := by have := (List.getElem?_eq_some_iff.mp ht).1; omega
      obtain ⟨n, hn⟩ : ∃ m, ns[i]? = some m := ⟨_, List.getElem?_eq_getElem (show i < ns.length by omega)⟩
      have hp3 : H3 p = some (.ins C dx (rf a r)) := s3 _ _ (sT _ _ hp trivial)
      have hR3 : RdAt C H3 p a b r := ⟨⟨dx, hp3⟩, s3 _ _ (sT _ _ hR.line trivial), hR.le, hR.small⟩
      exact ⟨_, rfl, p, dx, _, rfl, hp3, no1, _, rfl, t, _, _, _, rfl, rfl, (kk i t n ht hn).1.sq, at_of (j := 0) rfl rfl, p, a, b, r, word i, rfl, hR3, (hK.plain i hi).1, (hK.plain i hi).2, fun H4 s4 => ⟨rfl, s3.trans s4⟩⟩
    · obtain ⟨t, ht, rfl⟩ := ref_get hx
      have hi : i < 8 := by have := (List.getElem?_eq_some_iff.mp ht).1; omega
      obtain ⟨n, hn⟩ : ∃ m, ns[i]? = some m := ⟨_, List.getElem?_eq_getElem (show i < ns.length by omega)⟩
      have epick : Jm.pick (fun k => sb (word k)) (b.drop r) = i := Jm.pick_unique hi fun j hj => by
        have := hbest j (by rw [List.length_map, lt]; exact hj)
        dsimp only at this ⊢
        omega
      have hp3 : H3 p = some (.ins C dx (rf a r)) := s3 _ _ (sT _ _ hp trivial)
      have hR3 : RdAt C H3 p a b r := ⟨⟨dx, hp3⟩, s3 _ _ (sT _ _ hR.line trivial), hR.le, hR.small⟩
      have hB3 : ButT p H H3 := fun c o e _ nt => s3 _ _ (sT _ _ e nt)
      have hT3 : TabAt tP (lamPos (lamOf sHub)) (hubQual ++ ".<locals>." ++ "<lambda>") H3 := s3.tab hT2
      have ehub : hubOf word nums (b.drop r) = Jm.go (.word (sb (word i)) :: Jm.numParts (nums i)) (b.drop r) := by
        unfold hubOf
        rw [epick]
      refine ⟨_, rfl, p, dx, _, rfl, hp3, no2, _, rfl, t, _, _, _, rfl, rfl, (kk i t n ht hn).1.sq, at_of (j := 0) rfl rfl, p, a, b, r, word i, rfl, hR3, (hK.plain i hi).1, (hK.plain i hi).2, fun H4 hR4 b4 => ?_⟩
      have hB4 : ButT p H H4 := hB3.trans b4.t
      have hT4 : TabAt tP (lamPos (lamOf sHub)) (hubQual ++ ".<locals>." ++ "<lambda>") H4 := But.tab (t := ⟨tP, lamPos (lamOf sHub), hubQual ++ ".<locals>." ++ "<lambda>"⟩) b4 hp3 hT3
      refine ⟨_, rfl, ite2 (fun hno => ?_) fun hyes => ?_⟩
      · have hno' : Jm.shared (b.drop r) (sb (word i)) ≠ (sb (word i)).length := fun q => by
          rw [decide_eq_true q] at hno
          cases hno
        rw [Jm.go_word_no hno'] at ehub
        have q := k H4 (by rw [ehub]; exact hR4) hB4 hT4
        exact q.1 (by rw [ehub])
      · have hyes' : Jm.shared (b.drop r) (sb (word i)) = (sb (word i)).length := by
          by_cases q : Jm.shared (b.drop r) (sb (word i)) = (sb (word i)).length
          · exact q
          · rw [decide_eq_false q] at hyes
            exact absurd rfl hyes
        rw [Jm.go_word_yes hyes', List.drop_drop] at ehub
        rw [hyes'] at hR4
        refine ⟨_, rfl, t, _, _, _, rfl, rfl, (kk i t n ht hn).1.sq, at_of (j := 0) rfl rfl, (by show 1 ≤ sizeLine; decide), fun l hl => ?_⟩
        have fr : ∀ c o, H4 c = some o → c ≠ l := fun c o e => ne_of_none e hl
        refine ⟨_, rfl, t, _, _, _, rfl, rfl, (kk i t n ht hn).1.sq, at_of (j := 1) rfl rfl, n, rfl, ⟨_, (kk i t n ht hn).2.sq⟩, for_tup (xs := nV (nums i)) (fun j σ H' => ∃ (v4 v5 : Option V) (c : Nat) (taken : List Nat),
            σ = [some (.ref p), some (.ref ak), some (.ref t), some (.ref l), v4, v5] ∧ RdAt C H' p a b (r + c) ∧ ButT p H H' ∧ TabAt tP (lamPos (lamOf sHub)) (hubQual ++ ".<locals>." ++ "<lambda>") H' ∧ H' l = some (.lst (.str (word i) :: nV taken)) ∧ taken.length = j ∧
            hubOf word nums (b.drop r) = (c + (Jm.go (Jm.numParts ((nums i).drop j)) (b.drop (r + c))).1, taken ++ (Jm.go (Jm.numParts ((nums i).drop j)) (b.drop (r + c))).2.1, (Jm.go (Jm.numParts ((nums i).drop j)) (b.drop (r + c))).2.2)) ?_ (fun _ _ _ _ _ => (kk i t n ht hn).2.sq) ?_ ?_⟩
        · refine ⟨none, none, (sb (word i)).length, [], rfl, ?_, fun c o e ne nt => ?_, ?_, upd_same, rfl, ?_⟩
          · obtain ⟨dx4, hp4⟩ := hR4.ins
            exact ⟨⟨dx4, by rw [upd_ne (fr _ _ hp4)]; exact hp4⟩, by rw [upd_ne (fr _ _ hR4.line)]; exact hR4.line, hR4.le, hR4.small⟩
          · rw [upd_ne (fr _ _ (hB4 c o e ne nt))]
            exact hB4 c o e ne nt
          · exact Same.tab (fun c o e => by rw [upd_ne (fr _ _ e)]; exact e) hT4
          · rw [ehub]
            rfl
        · rintro j x σ H' hx' ⟨v4, v5, c, taken, rfl, hR', hB', hT', hl', htl, hgo⟩
          obtain ⟨g, hg, rfl⟩ := nV_get hx'
          have hrg := hK.rng i hi g (List.mem_of_getElem? hg)
          have hjl : j < (nums i).length := (List.getElem?_eq_some_iff.mp hg).1
          obtain ⟨dx', hp'⟩ := hR'.ins
          have hlp : l ≠ p := ne_of hl' hp' (by intro q; cases q)
          rw [drop_get hg] at hgo
          have eparts : Jm.numParts (g :: (nums i).drop (j + 1)) = .word [32] :: .num 0 g :: Jm.numParts ((nums i).drop (j + 1)) := rfl
          rw [eparts] at hgo
          refine ⟨_, rfl, p, dx', _, rfl, hp', no2, p, a, b, r + c, " ", rfl, hR', blank_plain, (by decide +kernel), fun H5 hR5 b5 => ?_⟩
          rw [blank_sb] at hR5 ⊢
          have hB5 : ButT p H H5 := hB'.trans b5.t
          have hT5 : TabAt tP (lamPos (lamOf sHub)) (hubQual ++ ".<locals>." ++ "<lambda>") H5 := But.tab (t := ⟨tP, lamPos (lamOf sHub), hubQual ++ ".<locals>." ++ "<lambda>"⟩) b5 hp' hT'
          have hl5 := b5 _ _ hl' hlp
          refine ⟨_, rfl, ite2 (fun hno => ?_) fun hyes => ?_⟩
          · have hno' : Jm.shared (b.drop (r + c)) [32] ≠ ([32] : Bytes).length := fun q => by
              rw [decide_eq_true q] at hno
              cases hno
            rw [Jm.go_word_no hno'] at hgo
            have q := k H5 (by rw [hgo]; show RdAt C H5 p a b (r + (c + _)); rw [← Nat.add_assoc]; exact hR5) hB5 hT5
            exact q.1 (by rw [hgo])
          · have hyes' : Jm.shared (b.drop (r + c)) [32] = ([32] : Bytes).length := by
              by_cases q : Jm.shared (b.drop (r + c)) [32] = ([32] : Bytes).length
              · exact q
              · rw [decide_eq_false q] at hyes
                exact absurd rfl hyes
            rw [Jm.go_word_yes hyes', List.drop_drop] at hgo
            rw [hyes'] at hR5
            have hR5' : RdAt C H5 p a b (r + c + 1) := hR5
            have hgo' : hubOf word nums (b.drop r) = (c + (1 + (Jm.go (.num 0 g :: Jm.numParts ((nums i).drop (j + 1))) (b.drop (r + c + 1))).1), taken ++ (Jm.go (.num 0 g :: Jm.numParts ((nums i).drop (j + 1))) (b.drop (r + c + 1))).2.1, (Jm.go (.num 0 g :: Jm.numParts ((nums i).drop (j + 1))) (b.drop (r + c + 1))).2.2) := hgo
            obtain ⟨dx5, hp5⟩ := hR5'.ins
            refine ⟨_, rfl, p, dx5, _, rfl, hp5, no3, _, rfl, p, a, b, r + c + 1, g, rfl, hR5', hrg.1, hrg.2, fun hnone => ?_, fun n' c' hsome H6 hR6 b6 => ?_⟩
            · refine ⟨_, rfl, _, rfl, iteT ?_⟩
              rw [Jm.go_num_no hnone] at hgo'
              have q := k H5 (by rw [hgo']; show RdAt C H5 p a b (r + (c + (1 + 0))); rw [← Nat.add_assoc]; exact hR5') hB5 hT5
              exact q.1 (by rw [hgo'])
            · refine ⟨_, rfl, _, rfl, iteF ?_⟩
              rw [Jm.go_num_yes hsome, List.drop_drop] at hgo'
              have hl6 := b6 _ _ hl5 hlp
              obtain ⟨dx6, hp6⟩ := hR6.ins
              have fr6 : ∀ c o, H c = some o → c ≠ p → NoTbl o → c ≠ l := fun c o e ne nt => fr _ _ (hB4 c o e ne nt)
              refine ⟨_, rfl, .inl ⟨rfl, _, SqL.of hl6⟩, _, rfl, l, _, _, rfl, rfl, hl6, ?_, ?_⟩
              · show (V.str (word i) :: nV taken).length < sizeLine
                have hle := hK.few i hi
                have e : (nV taken).length = taken.length := List.length_map ..
                rw [List.length_cons, e, htl]
                exact small1000 (by omega)
              · refine ⟨_, _, c + 1 + c', taken ++ [n'], rfl, ?_, fun d o e ne nt => ?_, ?_, ?_, by rw [List.length_append, htl]; rfl, ?_⟩
                · have e1 : r + (c + 1 + c') = r + c + 1 + c' := by omega
                  rw [e1]
                  exact ⟨⟨dx6, by rw [upd_ne (Ne.symm hlp)]; exact hp6⟩, by rw [upd_ne (fr6 a _ hR.line hR.ne trivial)]; exact hR6.line, hR6.le, hR6.small⟩
                · rw [upd_ne (fr6 d o e ne nt)]
                  exact b6 _ _ (hB5 d o e ne nt) ne
                · exact TabAt.list (But.tab (t := ⟨tP, lamPos (lamOf sHub), hubQual ++ ".<locals>." ++ "<lambda>"⟩) b6 hp5 hT5) hl6
                · rw [upd_same, nV_snoc]
                  rfl
                · rw [hgo']
                  have e1 : r + (c + 1 + c') = r + c + 1 + c' := by omega
                  rw [e1]
                  simp
                  omega
        · rintro σ H' ⟨v4, v5, c, taken, rfl, hR', hB', hT', hl', htl, hgo⟩
          have e0 : (nums i).drop (nV (nums i)).length = [] := by
            have e : (nV (nums i)).length = (nums i).length := List.length_map ..
            rw [e]
            simp
          rw [e0] at hgo
          have hgo' : hubOf word nums (b.drop r) = (c, taken, true) := by
            rw [hgo]
            simp [Jm.numParts, Jm.go]
          refine ⟨_, rfl, l, _, rfl, .inl ⟨SqL.of hl', fun q hq => ?_⟩⟩
          have fq : ∀ c o, H' c = some o → c ≠ q := fun c o e => ne_of_none e hq
          obtain ⟨dx', hp'⟩ := hR'.ins
          have z := k (upd H' q (.tup (.str (word i) :: nV taken))) (by rw [hgo']; exact ⟨⟨dx', by rw [upd_ne (fq _ _ hp')]; exact hp'⟩, by rw [upd_ne (fq _ _ hR'.line)]; exact hR'.line, hR'.le, hR'.small⟩)
            (fun d o e ne nt => by rw [upd_ne (fq _ _ (hB' d o e ne nt))]; exact hB' d o e ne nt) (Same.tab (fun d o e => by rw [upd_ne (fq _ _ e)]; exact e) hT')
          exact z.2 (by rw [hgo']) q (by rw [upd_same, epick, hgo'])
end
end Hb
end

section
set_option Elab.async false
set_option linter.all false
set_option maxRecDepth 100000
set_option maxHeartbeats 4000000
namespace Jm
open Pu
/-! ### the whole line, part by part -/
def hubT (b : Bytes) : Nat × List Nat × Bool := go (tForm (kt b)) (b.drop ((hubS b).1 + 3))
theorem full_eq (b : Bytes) : full b = go (sForm (ks b) ++ (.word gtW :: (tForm (kt b) ++ [.word [10]]))) b := rfl
theorem full_no1 {b : Bytes} (h : (hubS b).2.2 = false) : full b = hubS b := by
  rw [full_eq, go_append, if_neg (by show ¬ (hubS b).2.2 = true; rw [h]; exact Bool.false_ne_true)]
  rfl
theorem full_in {b : Bytes} (h : (hubS b).2.2 = true) : full b = ((hubS b).1 + (go (.word gtW :: (tForm (kt b) ++ [.word [10]])) (b.drop (hubS b).1)).1, (hubS b).2.1 ++ (go (.word gtW :: (tForm (kt b) ++ [.word [10]])) (b.drop (hubS b).1)).2.1, (go (.word gtW :: (tForm (kt b) ++ [.word [10]])) (b.drop (hubS b).1)).2.2) := by
  have h' : (go (sForm (ks b)) b).2.2 = true := h
  rw [full_eq, go_append, if_pos h']
  rfl
theorem full_no2 {b : Bytes} (h : (hubS b).2.2 = true) (hg : shared (b.drop (hubS b).1) gtW ≠ gtW.length) : full b = ((hubS b).1 + shared (b.drop (hubS b).1) gtW, (hubS b).2.1, false) := by
  rw [full_in h, go_word_no hg, List.append_nil]
theorem full_in2 {b : Bytes} (h : (hubS b).2.2 = true) (hg : shared (b.drop (hubS b).1) gtW = gtW.length) : full b = ((hubS b).1 + (3 + (go (tForm (kt b) ++ [.word [10]]) (b.drop ((hubS b).1 + 3))).1), (hubS b).2.1 ++ (go (tForm (kt b) ++ [.word [10]]) (b.drop ((hubS b).1 + 3))).2.1, (go (tForm (kt b) ++ [.word [10]]) (b.drop ((hubS b).1 + 3))).2.2) := by
  rw [full_in h, go_word_yes hg, List.drop_drop]
  rfl
theorem full_no3 {b : Bytes} (h : (hubS b).2.2 = true) (hg : shared (b.drop (hubS b).1) gtW = gtW.length) (ht : (hubT b).2.2 = false) : full b = ((hubS b).1 + (3 + (hubT b).1), (hubS b).2.1 ++ (hubT b).2.1, false) := by
  rw [full_in2 h hg, go_append, if_neg (by show ¬ (hubT b).2.2 = true; rw [ht]; exact Bool.false_ne_true)]
  show ((hubS b).1 + (3 + (hubT b).1), (hubS b).2.1 ++ (hubT b).2.1, (hubT b).2.2) = _
  rw [ht]
theorem full_in3 {b : Bytes} (h : (hubS b).2.2 = true) (hg : shared (b.drop (hubS b).1) gtW = gtW.length) (ht : (hubT b).2.2 = true) :
    full b = ((hubS b).1 + (3 + ((hubT b).1 + (go [.word [10]] (b.drop ((hubS b).1 + 3 + (hubT b).1))).1)), (hubS b).2.1 ++ ((hubT b).2.1 ++ (go [.word [10]] (b.drop ((hubS b).1 + 3 + (hubT b).1))).2.1), (go [.word [10]] (b.drop ((hubS b).1 + 3 + (hubT b).1))).2.2) := by
  have ht' : (go (tForm (kt b)) (b.drop ((hubS b).1 + 3))).2.2 = true := ht
  rw [full_in2 h hg, go_append, if_pos ht', List.drop_drop]
  rfl
theorem full_no4 {b : Bytes} (h : (hubS b).2.2 = true) (hg : shared (b.drop (hubS b).1) gtW = gtW.length) (ht : (hubT b).2.2 = true) (he : shared (b.drop ((hubS b).1 + 3 + (hubT b).1)) [10] ≠ ([10] : Bytes).length) :
    full b = ((hubS b).1 + (3 + ((hubT b).1 + shared (b.drop ((hubS b).1 + 3 + (hubT b).1)) [10])), (hubS b).2.1 ++ (hubT b).2.1, false) := by
  rw [full_in3 h hg ht, go_word_no he, List.append_nil]
theorem full_yes {b : Bytes} (h : (hubS b).2.2 = true) (hg : shared (b.drop (hubS b).1) gtW = gtW.length) (ht : (hubT b).2.2 = true) (he : shared (b.drop ((hubS b).1 + 3 + (hubT b).1)) [10] = ([10] : Bytes).length) :
    full b = ((hubS b).1 + (3 + ((hubT b).1 + 1)), (hubS b).2.1 ++ (hubT b).2.1, true) := by
  rw [full_in3 h hg ht, go_word_yes he]
  simp [go]
/-- the numbers of a hub that sends -/
def sendNums (w : Wire) : List Nat := if w.kind = 5 then [w.n, w.m] else [w.n]
theorem fit_s : ∀ k, k < 8 → Fit (sForm k ++ [.word [10]]) ∧ Fit (tForm k ++ [.word [10]]) := by
  intro k hk
  have b1 : ∀ k, k < 8 → 9 ≤ sendMost k - 1 ∧ sendMost k - 1 < 256 := by decide
  have b2 : ∀ k, k < 8 → 9 ≤ takeMost k - 1 ∧ takeMost k - 1 < 256 := by decide
  have b3 : 9 ≤ ROWS - 1 ∧ ROWS - 1 < 256 := by decide
  have d1 : isDig 32 = false := by decide
  have d2 : isDig 10 = false := by decide
  constructor
  · unfold sForm sNums
    split <;> simp only [numParts, List.cons_append, List.nil_append, Fit]
    · exact ⟨trivial, (b1 k hk).1, (b1 k hk).2, ⟨_, _, _, rfl, d1⟩, trivial, b3.1, b3.2, ⟨_, _, _, rfl, d2⟩, trivial⟩
    · exact ⟨trivial, (b1 k hk).1, (b1 k hk).2, ⟨_, _, _, rfl, d2⟩, trivial⟩
  · unfold tForm tNums
    simp only [numParts, List.cons_append, List.nil_append, Fit]
    exact ⟨trivial, (b2 k hk).1, (b2 k hk).2, ⟨_, _, _, rfl, d2⟩, trivial⟩
theorem go_count : ∀ (l : List Nat) (b : Bytes), (go (numParts l) b).2.2 = true → (go (numParts l) b).2.1.length = l.length
  | [], b, _ => rfl
  | g :: l, b, h => by
    have e : numParts (g :: l) = .word [32] :: .num 0 g :: numParts l := rfl
    rw [e] at h ⊢
    by_cases hs : shared b [32] = ([32] : Bytes).length
    · rw [go_word_yes hs] at h ⊢
      cases hn : readNum g (b.drop ([32] : Bytes).length) with
      | none => rw [go_num_no hn] at h; cases h
      | some p =>
        obtain ⟨n, c⟩ := p
        rw [go_num_yes hn] at h ⊢
        have := go_count l _ h
        exact congrArg (· + 1) this
    · rw [go_word_no hs] at h; cases h
theorem hubS_count {b : Bytes} (h : (hubS b).2.2 = true) : (hubS b).2.1.length = (sNums (ks b)).length := by
  unfold hubS sForm at h ⊢
  by_cases hs : shared b (sWord (ks b)) = (sWord (ks b)).length
  · rw [go_word_yes hs] at h ⊢
    exact go_count _ _ h
  · rw [go_word_no hs] at h; cases h
theorem hubT_count {b : Bytes} (h : (hubT b).2.2 = true) : (hubT b).2.1.length = 1 := by
  unfold hubT tForm at h ⊢
  by_cases hs : shared (b.drop ((hubS b).1 + 3)) (tWord (kt b)) = (tWord (kt b)).length
  · rw [go_word_yes hs] at h ⊢
    exact go_count (tNums (kt b)) _ h
  · rw [go_word_no hs] at h; cases h
theorem wire_parts {b : Bytes} (h : (hubS b).2.2 = true) (ht : (hubT b).2.2 = true) (hn : (full b).2.1 = (hubS b).2.1 ++ (hubT b).2.1) :
    (wireAt b).kind = ks b ∧ (wireAt b).into = kt b ∧ sendNums (wireAt b) = (hubS b).2.1 ∧ [(wireAt b).k] = (hubT b).2.1 := by
  have c1 := hubS_count h
  have c2 := hubT_count ht
  obtain ⟨k0, ek⟩ : ∃ k0, (hubT b).2.1 = [k0] := List.length_eq_one_iff.mp c2
  unfold wireAt wireN sendNums
  rw [hn, ek]
  unfold sNums at c1
  by_cases e : ks b = 5
  · rw [if_pos e] at c1
    match hh : (hubS b).2.1, c1 with
    | [n, m], _ => simp [e]
  · rw [if_neg e] at c1
    match hh : (hubS b).2.1, c1 with
    | [n], _ => simp [e]
end Jm
namespace Hb
open PySem PySem.Spec PyProof.Rows L2
/-! ### read_wire -/
def sW (k : Nat) : Str := Str.ofString (Pu.SENDS.getD k "")
def tW (k : Nat) : Str := Str.ofString (Pu.TAKES.getD k "")
theorem sb_sW8 : ∀ k, k < 8 → sb (sW k) = Jm.sWord k := by decide +kernel
theorem sb_tW8 : ∀ k, k < 8 → sb (tW k) = Jm.tWord k := by decide +kernel
theorem sb_emp : sb (Str.ofString "") = Pu.ascii "" := by decide +kernel
theorem sb_sW (k : Nat) : sb (sW k) = Jm.sWord k := by
  by_cases h : k < 8
  · exact sb_sW8 k h
  · have e : Pu.SENDS.getD k "" = "" := by
      rw [List.getD_eq_getElem?_getD, List.getElem?_eq_none (show Pu.SENDS.length ≤ k by show 8 ≤ k; omega)]
      rfl
    unfold sW Jm.sWord
    rw [e]
    exact sb_emp
theorem sb_tW (k : Nat) : sb (tW k) = Jm.tWord k := by
  by_cases h : k < 8
  · exact sb_tW8 k h
  · have e : Pu.TAKES.getD k "" = "" := by
      rw [List.getD_eq_getElem?_getD, List.getElem?_eq_none (show Pu.TAKES.length ≤ k by show 8 ≤ k; omega)]
      rfl
    unfold tW Jm.tWord
    rw [e]
    exact sb_emp
theorem hubOf_s (b : Bytes) : hubOf sW Jm.sNums b = Jm.hubS b ∧ Jm.pick (fun k => sb (sW k)) b = Jm.ks b := by
  have e : (fun k => sb (sW k)) = Jm.sWord := funext sb_sW
  unfold hubOf
  rw [e, sb_sW]
  exact ⟨rfl, rfl⟩
theorem hubOf_t (b : Bytes) : hubOf tW Jm.tNums (b.drop ((Jm.hubS b).1 + 3)) = Jm.hubT b ∧ Jm.pick (fun k => sb (tW k)) (b.drop ((Jm.hubS b).1 + 3)) = Jm.kt b := by
  have e : (fun k => sb (tW k)) = Jm.tWord := funext sb_tW
  unfold hubOf
  rw [e, sb_tW]
  exact ⟨rfl, rfl⟩
def hubSV (w : Pu.Wire) : List V := .str (sW w.kind) :: nV (Jm.sendNums w)
def hubTV (w : Pu.Wire) : List V := [.str (tW w.into), .int (w.k : Nat)]
/-- a wire stands at q -/
def WireAt (H : Hp) (q : Addr) (w : Pu.Wire) : Prop := ∃ q1 q2, H q = some (.tup [.ref q1, .ref q2]) ∧ H q1 = some (.tup (hubSV w)) ∧ H q2 = some (.tup (hubTV w))
def spWire (C : Addr) (t : Tb) : Sp := fun vs H Q _ => ∃ (p a : Addr) (b : Bytes), vs = [.ref p] ∧ RdAt C H p a b 0 ∧ Tab t H ∧
  ∀ H' : Hp, RdAt C H' p a b (Jm.full b).1 → ButT p H H' → Tab t H' → ((Jm.full b).2.2 = false → Q .non H') ∧ ((Jm.full b).2.2 = true → ∀ q, WireAt H' q (Jm.wireAt b) → Q (.ref q) H')
structure TxtW (K : PySem.W.Frag) (mg : Str → Option Value) (aS aT : Addr) : Prop where
  s : mg "SENDERS" = some (.ref aS)
  t : mg "TAKERS" = some (.ref aT)
  ks : Kinds K aS sW Jm.sNums
  kt : Kinds K aT tW Jm.tNums
theorem gt_sb : sb " > " = Jm.gtW := by decide +kernel
theorem gt_plain : Plain " > " := by unfold Plain; decide +kernel
theorem nl_sb : sb "\n" = [10] := by decide +kernel
theorem nl_plain : Plain "\n" := by unfold Plain; decide +kernel
section
variable {P : Program} {w : World} {K : PySem.W.Frag} {mg : Str → Option Value} {base : Heap}
theorem scW : FnScope ["self", "sender", "taker"] ["self"] (defScope sWire) := ⟨rfl, rfl, rfl, by decide +kernel, rfl, by decide +kernel, by decide +kernel⟩
theorem ok_wire {f C fh fs aS aT : Addr} {fd fdh fds : FuncData} {tb : Tb} (F : Fun K "read_wire" "LineReader.read_wire" sWire f fd) (T : Txt K mg C) (TW : TxtW K mg aS aT)
    (GH : FnOk P w K mg base CX0 6 fh fdh ["self", "kinds"] (spHub K C tb)) (bH : Binds K fdh ["self", "kinds"] []) (mH : Meth K C "read_hub" fh)
    (GS : FnOk P w K mg base CX0 2 fs fds ["self", "signs"] (spSigns C)) (bS : Binds K fds ["self", "signs"] []) (mS : Meth K C "read_signs" fs) :
    FnOk P w K mg base CX0 7 f fd ["self"] (spWire C tb) := by
  refine F.ok scW (fun vs H Q E h => ?_) (fun cdv A outer s H vs Q E hr h => ?_)
  · obtain ⟨p, a, b, rfl, _⟩ := h
    rfl
  · obtain ⟨p, a, b, rfl, hR, hT, k⟩ := h
    obtain ⟨dx, hp⟩ := hR.ins
    have hr2 : Room 2 (A.deeper (envOfC "LineReader.read_wire" (defScope sWire) s.heap.objs.size f cdv)) := hr.mono (by decide)
    have no1 : ∀ {a : Addr} {r : Nat}, (rf a r).lookup ("read_hub" : Str) = none := rf_no (by decide +kernel) (by decide +kernel)
    have no2 : ∀ {a : Addr} {r : Nat}, (rf a r).lookup ("read_signs" : Str) = none := rf_no (by decide +kernel) (by decide +kernel)
    refine ⟨_, pss_cons (ps_set (i := 1) scW.nd rfl (Or.inl rfl) (pe_meth (pv 0) T.cl mH GH hr bH .nil pass0 (pa_cons (pe_glob (v := .ref aS) (by rfl) TW.s rfl) pa_nil)))
      (pss_cons (ps_if (PW.pt (pw_or (pt_cmp (pc_isN (pv 1))) (pw_or1 (pt_not (pt_val (pe_meth (pv 0) T.cl mS GS hr2 bS .nil pass0 (pa_cons pe_str pa_nil))))))) (pss_one (ps_ret pe_non)) pss_nil)
      (pss_cons (ps_set (i := 2) scW.nd rfl (Or.inl rfl) (pe_meth (pv 0) T.cl mH GH hr bH .nil pass0 (pa_cons (pe_glob (v := .ref aT) (by rfl) TW.t rfl) pa_nil)))
      (pss_cons (ps_if (PW.pt (pw_or (pt_cmp (pc_isN (pv 2))) (pw_or1 (pt_not (pt_val (pe_meth (pv 0) T.cl mS GS hr2 bS .nil pass0 (pa_cons pe_str pa_nil))))))) (pss_one (ps_ret pe_non)) pss_nil)
      (pss_one (ps_ret (pe_tup (pa_cons (pv 1) (pa_cons (pv 2) pa_nil)))))))), ?_⟩
    refine ⟨_, rfl, p, dx, _, rfl, hp, no1, p, a, aS, b, 0, sW, Jm.sNums, rfl, hR, TW.ks, hT, fun H1 hR1 b1 hT1 => ?_⟩
    rw [List.drop_zero, (hubOf_s b).1, Nat.zero_add] at hR1
    rw [List.drop_zero, (hubOf_s b).1, (hubOf_s b).2]
    obtain ⟨dx1, hp1⟩ := hR1.ins
    refine ⟨fun hno => ?_, fun hyes q1 hq1 => ?_⟩
    · refine ⟨_, rfl, _, rfl, iteT (iteT ?_)⟩
      have e := Jm.full_no1 hno
      have z := k H1 (by rw [e]; exact hR1) b1 hT1
      exact z.1 (by rw [e]; exact hno)
    · refine ⟨_, rfl, _, rfl, iteF ?_⟩
      refine ⟨_, rfl, p, dx1, _, rfl, hp1, no2, p, a, b, _, " > ", rfl, hR1, gt_plain, (by decide +kernel), fun H2 hR2 b2 => ?_⟩
      rw [gt_sb] at hR2 ⊢
      have hB2 : ButT p H H2 := b1.trans b2.t
      have hT2 : Tab tb H2 := b2.tab hp1 hT1
      refine ⟨_, rfl, ite2 (fun hng => ?_) fun hg => ?_⟩
      · have hng' : Jm.shared (b.drop (Jm.hubS b).1) Jm.gtW ≠ Jm.gtW.length := fun q => by
          rw [decide_eq_true q] at hng
          cases hng
        have e := Jm.full_no2 hyes hng'
        have z := k H2 (by rw [e]; exact hR2) hB2 hT2
        exact z.1 (by rw [e])
      · have hg' : Jm.shared (b.drop (Jm.hubS b).1) Jm.gtW = Jm.gtW.length := by
          by_cases q : Jm.shared (b.drop (Jm.hubS b).1) Jm.gtW = Jm.gtW.length
          · exact q
          · rw [decide_eq_false q] at hg
            exact absurd rfl hg
        rw [hg'] at hR2
        have hR2' : RdAt C H2 p a b ((Jm.hubS b).1 + 3) := hR2
        obtain ⟨dx2, hp2⟩ := hR2'.ins
        have hq1' : H2 q1 = some _ := b2 _ _ hq1 (ne_of hq1 hp1 (by intro q; cases q))
        refine ⟨_, rfl, p, dx2, _, rfl, hp2, no1, p, a, aT, b, (Jm.hubS b).1 + 3, tW, Jm.tNums, rfl, hR2', TW.kt, hT2, fun H3 hR3 b3 hT3 => ?_⟩
        rw [(hubOf_t b).1] at hR3
        rw [(hubOf_t b).1, (hubOf_t b).2]
        obtain ⟨dx3, hp3⟩ := hR3.ins
        have hB3 : ButT p H H3 := hB2.trans b3
        refine ⟨fun hno => ?_, fun hyes3 q2 hq2 => ?_⟩
        · refine ⟨_, rfl, _, rfl, iteT (iteT ?_)⟩
          have e := Jm.full_no3 hyes hg' hno
          have z := k H3 (by rw [e]; show RdAt C H3 p a b ((Jm.hubS b).1 + (3 + _)); rw [← Nat.add_assoc]; exact hR3) hB3 hT3
          exact z.1 (by rw [e])
        · refine ⟨_, rfl, _, rfl, iteF ?_⟩
          refine ⟨_, rfl, p, dx3, _, rfl, hp3, no2, p, a, b, _, "\n", rfl, hR3, nl_plain, (by decide +kernel), fun H4 hR4 b4 => ?_⟩
          rw [nl_sb] at hR4 ⊢
          have hB4 : ButT p H H4 := hB3.trans b4.t
          have hT4 : Tab tb H4 := b4.tab hp3 hT3
          refine ⟨_, rfl, ite2 (fun hng => ?_) fun hg4 => ?_⟩
          · have hng' : Jm.shared (b.drop ((Jm.hubS b).1 + 3 + (Jm.hubT b).1)) [10] ≠ ([10] : Bytes).length := fun q => by
              rw [decide_eq_true q] at hng
              cases hng
            have e := Jm.full_no4 hyes hg' hyes3 hng'
            have z := k H4 (by rw [e]; show RdAt C H4 p a b ((Jm.hubS b).1 + (3 + (_ + _))); rw [← Nat.add_assoc, ← Nat.add_assoc]; exact hR4) hB4 hT4
            exact z.1 (by rw [e])
          · have hg4' : Jm.shared (b.drop ((Jm.hubS b).1 + 3 + (Jm.hubT b).1)) [10] = ([10] : Bytes).length := by
              by_cases q : Jm.shared (b.drop ((Jm.hubS b).1 + 3 + (Jm.hubT b).1)) [10] = ([10] : Bytes).length
              · exact q
              · rw [decide_eq_false q] at hg4
                exact absurd rfl hg4
            rw [hg4'] at hR4
            have e := Jm.full_yes hyes hg' hyes3 hg4'
            obtain ⟨w1, w2, w3, w4⟩ := Jm.wire_parts hyes hyes3 (by rw [e])
            have hq1'' : H4 q1 = some _ := b4 _ _ (b3 _ _ hq1' (ne_of hq1' hp2 (by intro q; cases q)) trivial) (ne_of (b3 _ _ hq1' (ne_of hq1' hp2 (by intro q; cases q)) trivial) hp3 (by intro q; cases q))
            have hq2' : H4 q2 = some _ := b4 _ _ hq2 (ne_of hq2 hp3 (by intro q; cases q))
            refine ⟨_, rfl, _, rfl, (by show 2 ≤ sizeLine; decide), fun q hq => ?_⟩
            have fq : ∀ c o, H4 c = some o → c ≠ q := fun c o e => ne_of_none e hq
            obtain ⟨dx4, hp4⟩ := hR4.ins
            have z := k (upd H4 q (.tup [.ref q1, .ref q2])) (by
                rw [e]
                show RdAt C _ p a b ((Jm.hubS b).1 + (3 + (_ + 1)))
                rw [← Nat.add_assoc, ← Nat.add_assoc]
                exact ⟨⟨dx4, by rw [upd_ne (fq _ _ hp4)]; exact hp4⟩, by rw [upd_ne (fq _ _ hR4.line)]; exact hR4.line, hR4.le, hR4.small⟩)
              (fun d o e ne nt => by rw [upd_ne (fq _ _ (hB4 d o e ne nt))]; exact hB4 d o e ne nt) (Same.tab (fun d o e => by rw [upd_ne (fq _ _ e)]; exact e) hT4)
            refine z.2 (by rw [e]) q ⟨q1, q2, upd_same, ?_, ?_⟩
            · rw [upd_ne (fq _ _ hq1''), hq1'']
              unfold hubSV
              rw [w1, w3]
            · rw [upd_ne (fq _ _ hq2'), hq2']
              unfold hubTV
              rw [w2, ← w4]
              rfl
end
end Hb
end

section
set_option Elab.async false
set_option linter.all false
set_option maxRecDepth 100000
set_option maxHeartbeats 4000000
namespace Hb
open PySem PySem.Spec PyProof.Rows L2
abbrev sPart : Stmt := top 14
abbrev sRead : Stmt := top 15
abbrev sLine : Stmt := top 16
/-- lines stand at p: their lists at as -/
structure LinesAt (H : Hp) (p : Addr) (as : List Addr) (ls : List Bytes) : Prop where
  lst : H p = some (.lst (as.map V.ref))
  len : as.length = ls.length
  at_ : ∀ (i : Nat) (a : Addr) (l : Bytes), as[i]? = some a → ls[i]? = some l → H a = some (.lst (bL l))
theorem LinesAt.same {H H' : Hp} {p : Addr} {as : List Addr} {ls : List Bytes} (h : LinesAt H p as ls) (e : SameT H H') : LinesAt H' p as ls :=
  ⟨e _ _ h.lst trivial, h.len, fun i a l h1 h2 => e _ _ (h.at_ i a l h1 h2) trivial⟩
def spPart (K : PySem.W.Frag) : Sp := fun vs H Q _ => ∃ (a : Addr) (b : Bytes), vs = [.ref a] ∧ SqL K H a (bL b) ∧ b.length ≤ 65536 ∧ ∀ (H' : Hp) (p : Addr) (as : List Addr), Same H H' → LinesAt H' p as (Pu.pieces b) → Q (.ref p) H'
structure TxtP (mg : Str → Option Value) : Prop where
  le : ∃ t, mg "LINE_END" = some (.int 10 t)
theorem ne_mem {a b : Addr} {l : List Addr} (h : a ∈ l) (n : b ∉ l) : a ≠ b := fun e => n (e ▸ h)
section
variable {P : Program} {w : World} {K : PySem.W.Frag} {mg : Str → Option Value} {base : Heap}
theorem scP : FnScope ["text", "lines", "line", "byte"] ["text"] (defScope sPart) := ⟨rfl, rfl, rfl, by decide +kernel, rfl, by decide +kernel, by decide +kernel⟩
theorem dec_ten (c : UInt8) : decide (bV c = V.int 10) = true ↔ c = 10 := by
  rw [decide_eq_true_iff]
  constructor
  · intro e
    have e2 : (c.toNat : Int) = 10 := V.int.inj e
    have e3 : c.toNat = 10 := by omega
    have : UInt8.ofNat c.toNat = UInt8.ofNat 10 := by rw [e3]
    rw [UInt8.ofNat_toNat] at this
    exact this
  · intro e
    rw [e]
    rfl
theorem parted_take {b : Bytes} {i : Nat} {c : UInt8} (h : b[i]? = some c) : Jm.parted ([], []) (b.take (i + 1)) = if c = 10 then ((Jm.parted ([], []) (b.take i)).1 ++ [(Jm.parted ([], []) (b.take i)).2 ++ [c]], []) else ((Jm.parted ([], []) (b.take i)).1, (Jm.parted ([], []) (b.take i)).2 ++ [c]) := by
  have e : b.take (i + 1) = b.take i ++ [c] := by
    obtain ⟨h1, h2⟩ := List.getElem?_eq_some_iff.mp h
    rw [← h2]; simp
  rw [e, Jm.parted_snoc]
theorem parted_small (b : Bytes) (i : Nat) : (Jm.parted ([], []) (b.take i)).2.length ≤ b.length ∧ (Jm.parted ([], []) (b.take i)).1.length ≤ b.length := by
  have h := Jm.parted_len (b.take i) ([], [])
  have := List.length_take_le i b
  simp at h
  have h2 : min i b.length ≤ b.length := Nat.min_le_right _ _
  omega
theorem bL_snoc (l : Bytes) (c : UInt8) : bL (l ++ [c]) = bL l ++ [bV c] := by
  unfold bL
  rw [List.map_append]
  rfl
/-- a line more -/
theorem LinesAt.snoc {H H' : Hp} {p c : Addr} {as : List Addr} {ls : List Bytes} {l : Bytes} (h : LinesAt H p as ls) (hp : H' p = some (.lst (as.map V.ref ++ [.ref c]))) (hc : H' c = some (.lst (bL l))) (hk : ∀ a o, H a = some o → a ∈ as → H' a = some o) : LinesAt H' p (as ++ [c]) (ls ++ [l]) := by
  refine ⟨by rw [hp, List.map_append]; rfl, by rw [List.length_append, List.length_append, h.len]; rfl, fun i a l' h1 h2 => ?_⟩
  by_cases hi : i < as.length
  · rw [List.getElem?_append_left hi] at h1
    rw [List.getElem?_append_left (by rw [← h.len]; exact hi)] at h2
    exact hk _ _ (h.at_ i a l' h1 h2) (List.mem_of_getElem? h1)
  · rw [List.getElem?_append_right (by omega)] at h1
    rw [List.getElem?_append_right (by rw [← h.len]; omega)] at h2
    rw [← h.len] at h2
    have e : i - as.length = 0 := by
      have := (List.getElem?_eq_some_iff.mp h1).1
      simp at this
      omega
    rw [e] at h1 h2
    have e1 : c = a := by simpa using h1
    have e2 : l = l' := by simpa using h2
    rw [← e1, ← e2]
    exact hc
theorem ok_part {f : Addr} {fd : FuncData} (F : Fun K "part_lines" "part_lines" sPart f fd) (TP : TxtP mg) : FnOk P w K mg base CX0 1 f fd ["text"] (spPart K) := by
  refine F.ok scP (fun vs H Q E h => ?_) (fun cdv A outer s H vs Q E hr h => ?_)
  · obtain ⟨a, b, rfl, _⟩ := h
    rfl
  · obtain ⟨a, b, rfl, hS, hlen, k⟩ := h
    obtain ⟨tk, hle⟩ := TP.le
    have big : (65537 : Nat) < sizeLine := by decide
    refine ⟨_, pss_cons (ps_set (i := 1) scP.nd rfl (Or.inl rfl) (pe_lst pa_nil))
      (pss_cons (ps_set (i := 2) scP.nd rfl (Or.inl rfl) (pe_lst pa_nil))
      (pss_cons (ps_for PassesOwn.never rfl (pi_list (pv 0)) (pg_name (i := 3) scP.nd rfl (Or.inl rfl))
        (pss_cons (ps_expr (pe_bm PySem.F.plainAttrs_list PySem.F.slot_list_append PySem.F.type_list_append mt_append (pv 2) (pa_cons (pv 3) pa_nil)))
        (pss_one (ps_if (pt_cmpR op_eq (pv 3) (pe_glob (v := .int 10) (by rfl) hle ⟨tk, rfl⟩) (nomark _))
          (pss_cons (ps_expr (pe_bm PySem.F.plainAttrs_list PySem.F.slot_list_append PySem.F.type_list_append mt_append (pv 1) (pa_cons (pv 2) pa_nil)))
          (pss_one (ps_set (i := 2) scP.nd rfl (Or.inl rfl) (pe_lst pa_nil)))) pss_nil))))
      (pss_cons (ps_if (pt_truth (pv 2) (fun _ => rfl)) (pss_one (ps_expr (pe_bm PySem.F.plainAttrs_list PySem.F.slot_list_append PySem.F.type_list_append mt_append (pv 1) (pa_cons (pv 2) pa_nil)))) pss_nil)
      (pss_one (ps_ret (pv 1)))))), ?_⟩
    refine ⟨(by show 0 ≤ sizeLine; decide), fun lp hlp => ?_⟩
    refine ⟨(by show 0 ≤ sizeLine; decide), fun cu hcu => ?_⟩
    have nlc : cu ≠ lp := fun e => by rw [e, upd_same] at hcu; cases hcu
    have hcuH : H cu = none := by rw [upd_ne nlc] at hcu; exact hcu
    have s0 : Same H (upd (upd H lp (.lst [])) cu (.lst [])) := fun c o e => by rw [upd_ne (ne_of_none e hcuH), upd_ne (ne_of_none e hlp)]; exact e
    refine ⟨_, rfl, a, rfl, ⟨_, s0.seq hS⟩, for_list (K := K) (a := a) (xs := bL b) (fun i σ H' => ∃ (cu : Addr) (as : List Addr) (v3 : Option V), σ = [some (.ref a), some (.ref lp), some (.ref cu), v3] ∧ Same H H' ∧ LinesAt H' lp as (Jm.parted ([], []) (b.take i)).1 ∧ H' cu = some (.lst (bL (Jm.parted ([], []) (b.take i)).2)) ∧ H cu = none ∧ cu ≠ lp ∧ cu ∉ as ∧ lp ∉ as)
      ⟨cu, [], none, rfl, s0, ⟨by rw [upd_ne (Ne.symm nlc)]; exact upd_same, rfl, fun i a l h1 => by simp at h1⟩, upd_same, hcuH, nlc, by simp, by simp⟩ (fun i σ H' _ ⟨_, _, _, _, s1, _⟩ => s1.seq hS) ?_ ?_⟩
    · rintro i x σ H' hx ⟨cu, as, v3, rfl, s1, hL, hc, hcH, ncl, nca, nla⟩
      obtain ⟨c, hcb, rfl⟩ := bL_get hx
      have sm := parted_small b i
      have ept := parted_take hcb
      refine ⟨_, rfl, .inl ⟨rfl, _, SqL.of hc⟩, _, rfl, cu, _, _, rfl, rfl, hc, (by rw [bL_len]; omega), ?_⟩
      have s2 : Same H (upd H' cu (.lst (bL (Jm.parted ([], []) (b.take i)).2 ++ [bV c]))) := fun d o e => by rw [upd_ne (ne_of_none e hcH)]; exact s1 _ _ e
      refine ⟨_, rfl, rfl, _, rfl, ite2 (fun h10 => ?_) fun h10 => ?_⟩
      · have e10 := (dec_ten c).mp h10
        rw [if_pos e10] at ept
        have hl2 : upd H' cu (.lst (bL (Jm.parted ([], []) (b.take i)).2 ++ [bV c])) lp = some (.lst (as.map V.ref)) := by rw [upd_ne (Ne.symm ncl)]; exact hL.lst
        refine ⟨_, rfl, .inl ⟨rfl, _, SqL.of hl2⟩, _, rfl, lp, _, _, rfl, rfl, hl2, (by rw [List.length_map, hL.len]; omega), ?_⟩
        refine ⟨(by show 0 ≤ sizeLine; decide), fun cn hcn => ?_⟩
        have n1 : cn ≠ lp := fun e => by rw [e, upd_same] at hcn; cases hcn
        rw [upd_ne n1] at hcn
        have n2 : cn ≠ cu := fun e => by rw [e, upd_same] at hcn; cases hcn
        rw [upd_ne n2] at hcn
        have n3 : cn ∉ as := fun m => by
          obtain ⟨j, hj, ej⟩ := List.getElem_of_mem m
          have q := hL.at_ j cn _ (by rw [List.getElem?_eq_getElem hj, ej]) (List.getElem?_eq_getElem (by rw [← hL.len]; exact hj))
          rw [q] at hcn; cases hcn
        have hcnH : H cn = none := s1.free hcn
        rw [ept]
        refine ⟨cn, as ++ [cu], _, rfl, fun d o e => ?_, ?_, upd_same, hcnH, n1, ?_, ?_⟩
        · rw [upd_ne (ne_of_none e hcnH), upd_ne (ne_of_none e hlp)]
          exact s2 d o e
        · refine hL.snoc (by rw [upd_ne (Ne.symm n1), upd_same]) (by rw [upd_ne (Ne.symm n2), upd_ne ncl, upd_same, bL_snoc]) fun d o e m => ?_
          rw [upd_ne (ne_mem m n3), upd_ne (ne_mem m nla), upd_ne (ne_mem m nca)]
          exact e
        · simp [n3, n2]
        · simp [nla, Ne.symm ncl]
      · have e10 : ¬ c = 10 := fun e => h10 ((dec_ten c).mpr e)
        rw [if_neg e10] at ept
        rw [show (i + 1) = i + 1 from rfl]
        refine ⟨cu, as, some (bV c), rfl, s2, ?_, ?_, hcH, ncl, nca, nla⟩
        · rw [ept]
          exact ⟨by rw [upd_ne (Ne.symm ncl)]; exact hL.lst, hL.len, fun j d l h1 h2 => by rw [upd_ne (ne_mem (List.mem_of_getElem? h1) nca)]; exact hL.at_ j d l h1 h2⟩
        · rw [ept, upd_same, bL_snoc]
    · rintro σ H' ⟨cu, as, v3, rfl, s1, hL, hc, hcH, ncl, nca, nla⟩
      rw [bL_len, List.take_length] at hL hc
      have sm := parted_small b b.length
      rw [List.take_length] at sm
      have epc := Jm.pieces_of b
      refine ⟨_, rfl, _, .inl ⟨_, SqL.of hc, rfl⟩, ite2 (fun hne => ?_) fun hne => ?_⟩
      · have hne' : ¬ (Jm.parted ([], []) b).2 = [] := fun e => by
          rw [e] at hne
          exact absurd hne (by decide)
        rw [if_neg hne'] at epc
        refine ⟨_, rfl, .inl ⟨rfl, _, SqL.of hL.lst⟩, _, rfl, lp, _, _, rfl, rfl, hL.lst, (by rw [List.length_map, hL.len]; omega), ?_⟩
        refine ⟨_, rfl, k _ lp (as ++ [cu]) (fun d o e => by rw [upd_ne (ne_of_none e hlp)]; exact s1 _ _ e) ?_⟩
        rw [epc]
        refine hL.snoc upd_same (by rw [upd_ne ncl]; exact hc) fun d o e m => ?_
        rw [upd_ne (ne_mem m nla)]
        exact e
      · have he' : (Jm.parted ([], []) b).2 = [] := by
          cases e : (Jm.parted ([], []) b).2 with
          | nil => rfl
          | cons x l =>
            rw [e] at hne
            exact absurd rfl hne
        rw [if_pos he'] at epc
        exact ⟨_, rfl, k _ lp as s1 (by rw [epc]; exact hL)⟩
end
end Hb
end

section
set_option Elab.async false
set_option linter.all false
set_option maxRecDepth 100000
set_option maxHeartbeats 4000000
namespace Hb
open PySem PySem.Spec PyProof.Rows L2
theorem SameT.refl (H : Hp) : SameT H H := fun _ _ e _ => e
/-- a new reader upon a line -/
theorem reader_new {C x dx la : Addr} {H1 H2 : Hp} {l : Bytes} (nx : H1 x = none) (nd : H1 dx = none) (hl : H1 la = some (.lst (bL l))) (hs : l.length ≤ 65536) (h2 : H2 x = some (.ins C dx (rf la 0))) (b2 : But x (upd (upd H1 dx (.own x)) x (.ins C dx [])) H2) :
    RdAt C H2 x la l 0 ∧ Same H1 H2 := by
  have s : Same H1 H2 := fun b o e => b2 b o (by rw [upd_ne (ne_of_none e nx), upd_ne (ne_of_none e nd)]; exact e) (ne_of_none e nx)
  exact ⟨⟨⟨dx, h2⟩, s _ _ hl, Nat.zero_le _, hs⟩, s⟩
/-- behind the reading of a new reader -/
theorem reader_done {x : Addr} {H1 H2 H3 : Hp} (nx : H1 x = none) (s : Same H1 H2) (b3 : ButT x H2 H3) : SameT H1 H3 := fun b o e nt => b3 b o (s _ _ e) (ne_of_none e nx) nt
def spLine (t : Tb) : Sp := fun vs H Q _ => ∃ (p : Addr) (as : List Addr) (ls : List Bytes), vs = [.ref p] ∧ LinesAt H p as ls ∧ Tab t H ∧ (∀ l ∈ ls, l.length ≤ 65536) ∧
  (∀ i l, ls[i]? = some l → (∀ j y, j < i → ls[j]? = some y → j < 256 ∧ (Jm.full y).2.2 = true) → (256 ≤ i ∨ (Jm.full l).2.2 = false) →
    ∀ (H' : Hp) (q : Addr), SameT H H' → Tab t H' → H' q = some (.lst [.int (if 256 ≤ i then 2 else 1), .int (i : Nat), .int ((if 256 ≤ i then 0 else (Jm.full l).1 : Nat) : Int)]) → Q (.ref q) H') ∧
  ((∀ j y, ls[j]? = some y → j < 256 ∧ (Jm.full y).2.2 = true) → ∀ (H' : Hp) (q : Addr), SameT H H' → Tab t H' → H' q = some (.lst []) → Q (.ref q) H')
structure TxtL (mg : Str → Option Value) (C : Addr) : Prop where
  cls : mg "LineReader" = some (.ref C)
  most : ∃ t, mg "MOST_WIRES" = some (.int 256 t)
  many : ∃ t, mg "LINE_TOO_MANY" = some (.int 2 t)
  no : ∃ t, mg "NO_LINE" = some (.int 1 t)
  en : mg "enumerate" = none
section
variable {P : Program} {w : World} {K : PySem.W.Frag} {mg : Str → Option Value} {base : Heap}
theorem scL : FnScope ["lines", "place", "line", "reader"] ["lines"] (defScope sLine) := ⟨rfl, rfl, rfl, by decide +kernel, rfl, by decide +kernel, by decide +kernel⟩
theorem ok_line {f C fi fw : Addr} {fd fdi fdw : FuncData} {tb : Tb} (F : Fun K "find_line_fault" "find_line_fault" sLine f fd) (T : Txt K mg C) (TL : TxtL mg C) (M : Mk K C fi)
    (FI : Fun K "__init__" "LineReader.__init__" sInit fi fdi) (bI : Binds K fdi ["self", "line"] [])
    (GW : FnOk P w K mg base CX0 7 fw fdw ["self"] (spWire C tb)) (bW : Binds K fdw ["self"] []) (mW : Meth K C "read_wire" fw) :
    FnOk P w K mg base CX0 8 f fd ["lines"] (spLine tb) := by
  have GI : FnOk P w K mg base CX0 1 fi fdi ["self", "line"] (spInit C) := ok_init FI T
  refine F.ok scL (fun vs H Q E h => ?_) (fun cdv A outer s H vs Q E hr h => ?_)
  · obtain ⟨p, as, ls, rfl, _⟩ := h
    rfl
  · obtain ⟨p, as, ls, rfl, hL, hT, hsm, k1, k2⟩ := h
    obtain ⟨t1, e1⟩ := TL.most
    obtain ⟨t2, e2⟩ := TL.many
    obtain ⟨t3, e3⟩ := TL.no
    have hr2 : Room 2 (A.deeper (envOfC "find_line_fault" (defScope sLine) s.heap.objs.size f cdv)) := hr.mono (by decide)
    have noW : ∀ {a : Addr} {r : Nat}, (rf a r).lookup ("read_wire" : Str) = none := rf_no (by decide +kernel) (by decide +kernel)
    refine ⟨_, pss_cons (ps_for PassesOwn.never rfl (pi_enum (by rfl) TL.en (pa_cons (pv 0) pa_nil)) (pg_tup rfl (pgs_cons (pg_name (i := 1) scL.nd rfl (Or.inl rfl)) (pgs_cons (pg_name (i := 2) scL.nd rfl (Or.inl rfl)) pgs_nil)))
        (pss_cons (ps_if (pt_cmpR op_eq (pv 1) (pe_glob (v := .int 256) (by rfl) e1 ⟨t1, rfl⟩) (nomark _)) (pss_one (ps_ret (pe_lst (pa_cons (pe_glob (v := .int 2) (by rfl) e2 ⟨t2, rfl⟩) (pa_cons (pv 1) (pa_cons pe_int pa_nil)))))) pss_nil)
        (pss_cons (ps_set (i := 3) scL.nd rfl (Or.inl rfl) (pe_make M GI hr2 (by rfl) TL.cls bI .nil pass0 (pa_cons (pv 2) pa_nil)))
        (pss_one (ps_if (pt_cmp (pc_isN (pe_meth0 (pv 3) T.cl mW GW hr bW .nil pass0))) (pss_one (ps_ret (pe_lst (pa_cons (pe_glob (v := .int 1) (by rfl) e3 ⟨t3, rfl⟩) (pa_cons (pv 1) (pa_cons (pe_fld (pv 3) rfl) pa_nil)))))) pss_nil)))))
      (pss_one (ps_ret (pe_lst pa_nil))), ?_⟩
    refine ⟨_, rfl, p, _, rfl, SqL.of hL.lst, for_enum (xs := as.map V.ref) (fun i σ H' => ∃ v1 v2 v3 : Option V, σ = [some (.ref p), v1, v2, v3] ∧ SameT H H' ∧ Tab tb H' ∧ ∀ j y, j < i → ls[j]? = some y → j < 256 ∧ (Jm.full y).2.2 = true)
      ⟨none, none, none, rfl, SameT.refl H, hT, fun j y hj => absurd hj (Nat.not_lt_zero j)⟩ (fun i σ H' ⟨_, _, _, _, s1, _⟩ => SqL.of (s1 _ _ hL.lst trivial)) ?_ ?_⟩
    · rintro i x T' σ H' hx ⟨v1, v2, v3, rfl, s1, hT1, hall⟩ hTn
      obtain ⟨la, hla, rfl⟩ := ref_get hx
      have hi : i < ls.length := by rw [← hL.len]; exact (List.getElem?_eq_some_iff.mp hla).1
      obtain ⟨l, hl⟩ : ∃ l, ls[i]? = some l := ⟨_, List.getElem?_eq_getElem hi⟩
      have hlat := hL.at_ i la l hla hl
      have u1 : Same H' (upd H' T' (.tup [.int (i : Nat), .ref la])) := fun d o e => by rw [upd_ne (ne_of_none e hTn)]; exact e
      have s2 : SameT H (upd H' T' (.tup [.int (i : Nat), .ref la])) := s1.trans u1.t
      have hT2 := u1.tab hT1
      refine ⟨T', _, rfl, SqT.of upd_same, rfl, _, _, rfl, _, _, rfl, rfl, _, rfl, rfl, _, rfl, ite2 (fun h256 => ?_) fun h256 => ?_⟩
      · have e256 : i = 256 := by
          have := V.int.inj (of_decide_eq_true h256)
          omega
        refine ⟨_, rfl, (by show 3 ≤ sizeLine; decide), fun q hq => ?_⟩
        have u2 : Same (upd H' T' (.tup [.int (i : Nat), .ref la])) (upd (upd H' T' (.tup [.int (i : Nat), .ref la])) q (.lst [.int 2, .int (i : Nat), .int 0])) := fun d o e => by rw [upd_ne (ne_of_none e hq)]; exact e
        refine k1 i l hl hall (.inl (by omega)) _ q (s2.trans u2.t) (u2.tab hT2) ?_
        rw [upd_same, if_pos (by omega), if_pos (by omega)]
        rfl
      · have n256 : i < 256 := by
          have hne : ¬ V.int (i : Nat) = V.int 256 := fun e => h256 (decide_eq_true e)
          by_cases q : i < 256
          · exact q
          · exfalso
            by_cases q2 : i = 256
            · subst q2; exact hne rfl
            · obtain ⟨y, hy⟩ : ∃ y, ls[256]? = some y := ⟨_, List.getElem?_eq_getElem (by omega)⟩
              have := (hall 256 y (by omega) hy).1
              omega
        refine ⟨_, rfl, fun x dx nx nd nex => ⟨x, dx, la, rfl, upd_same, fun H3 h3 b3 => ⟨rfl, ?_⟩⟩⟩
        obtain ⟨hR3, u3⟩ := reader_new nx nd (s2 _ _ hlat trivial) (hsm l (List.mem_of_getElem? hl)) h3 b3
        have hT3 := u3.tab hT2
        refine ⟨_, rfl, x, dx, _, rfl, h3, noW, x, la, l, rfl, hR3, hT3, fun H4 hR4 b4 hT4 => ⟨fun hno => ?_, fun hyes q hq => ?_⟩⟩
        · have s4 : SameT H H4 := s2.trans (reader_done nx u3 b4)
          obtain ⟨dx4, hp4⟩ := hR4.ins
          refine ⟨_, rfl, iteT ?_⟩
          refine ⟨_, rfl, _, rfl, x, C, dx4, _, _, rfl, hp4, T.cl, T.nR, rf_right _ _, (by show 3 ≤ sizeLine; decide), fun q hq => ?_⟩
          have u5 : Same H4 (upd H4 q (.lst [.int 1, .int (i : Nat), .int ((Jm.full l).1 : Nat)])) := fun d o e => by rw [upd_ne (ne_of_none e hq)]; exact e
          refine k1 i l hl hall (.inr hno) _ q (s4.trans u5.t) (u5.tab hT4) ?_
          rw [upd_same, if_neg (by omega), if_neg (by omega)]
        · refine ⟨_, rfl, iteF ?_⟩
          refine ⟨_, _, _, rfl, s2.trans (reader_done nx u3 b4), hT4, fun j y hj hy => ?_⟩
          by_cases e : j = i
          · subst e
            rw [hl] at hy
            cases hy
            exact ⟨n256, hyes⟩
          · exact hall j y (by omega) hy
    · rintro σ H' ⟨v1, v2, v3, rfl, s1, hT1, hall⟩
      rw [List.length_map, hL.len] at hall
      refine ⟨(by show 0 ≤ sizeLine; decide), fun q hq => ?_⟩
      have u5 : Same H' (upd H' q (.lst [])) := fun d o e => by rw [upd_ne (ne_of_none e hq)]; exact e
      exact k2 (fun j y hy => hall j y (List.getElem?_eq_some_iff.mp hy).1 hy) _ q (s1.trans u5.t) (u5.tab hT1) upd_same
/-! ### read_wires -/
structure WiresAt (H : Hp) (p : Addr) (qs : List Addr) (ws : List Pu.Wire) : Prop where
  lst : H p = some (.lst (qs.map V.ref))
  len : qs.length = ws.length
  at_ : ∀ (i : Nat) (q : Addr) (w : Pu.Wire), qs[i]? = some q → ws[i]? = some w → WireAt H q w
theorem WireAt.same {H H' : Hp} {q : Addr} {w : Pu.Wire} (h : WireAt H q w) (e : SameT H H') : WireAt H' q w := by
  obtain ⟨q1, q2, h1, h2, h3⟩ := h
  exact ⟨q1, q2, e _ _ h1 trivial, e _ _ h2 trivial, e _ _ h3 trivial⟩
theorem WiresAt.same {H H' : Hp} {p : Addr} {qs : List Addr} {ws : List Pu.Wire} (h : WiresAt H p qs ws) (e : SameT H H') : WiresAt H' p qs ws :=
  ⟨e _ _ h.lst trivial, h.len, fun i q w h1 h2 => (h.at_ i q w h1 h2).same e⟩
def spRead (t : Tb) : Sp := fun vs H Q _ => ∃ (p : Addr) (as : List Addr) (ls : List Bytes), vs = [.ref p] ∧ LinesAt H p as ls ∧ Tab t H ∧ (∀ l ∈ ls, l.length ≤ 65536) ∧ ls.length ≤ 256 ∧ (∀ l ∈ ls, (Jm.full l).2.2 = true) ∧
  ∀ (H' : Hp) (q : Addr) (qs : List Addr), SameT H H' → Tab t H' → WiresAt H' q qs (ls.map Jm.wireAt) → Q (.ref q) H'
def teRead (C : Addr) (t : Tb) : TE := tMeth C "read_wire" (spWire C t) [] E0 (tMake C (spInit C) [] E0 (tCons (tVar 1) tNil)) tNil
def compScope (st : Stmt) : Scope := match defBody st with
  | [.Return (some (.ListComp _ _ sc _)) _] => sc
  | _ => { kind := .function, names := [], isGenerator := false, isCoroutine := false }
theorem scR : FnScope ["lines", "line"] ["lines"] (defScope sRead) := ⟨rfl, rfl, rfl, by decide +kernel, rfl, by decide +kernel, by decide +kernel⟩
theorem blkR : BlkOk ["lines", "line"] (defScope sRead) (compScope sRead) [("line", 1)] := ⟨rfl, by decide +kernel, by decide +kernel, by decide +kernel, by decide +kernel⟩
theorem ok_read {f C fi fw : Addr} {fd fdi fdw : FuncData} {tb : Tb} (F : Fun K "read_wires" "read_wires" sRead f fd) (T : Txt K mg C) (TL : TxtL mg C) (M : Mk K C fi)
    (FI : Fun K "__init__" "LineReader.__init__" sInit fi fdi) (bI : Binds K fdi ["self", "line"] [])
    (GW : FnOk P w K mg base CX0 7 fw fdw ["self"] (spWire C tb)) (bW : Binds K fdw ["self"] []) (mW : Meth K C "read_wire" fw) :
    FnOk P w K mg base CX0 8 f fd ["lines"] (spRead tb) := by
  have GI : FnOk P w K mg base CX0 1 fi fdi ["self", "line"] (spInit C) := ok_init FI T
  refine F.ok scR (fun vs H Q E h => ?_) (fun cdv A outer s H vs Q E hr h => ?_)
  · obtain ⟨p, as, ls, rfl, _⟩ := h
    rfl
  · obtain ⟨p, as, ls, rfl, hL, hT, hsm, hln, hok, k⟩ := h
    have hr2 : Room 2 (A.deeper (envOfC "read_wires" (defScope sRead) s.heap.objs.size f cdv)) := hr.mono (by decide)
    have noW : ∀ {a : Addr} {r : Nat}, (rf a r).lookup ("read_wire" : Str) = none := rf_no (by decide +kernel) (by decide +kernel)
    refine ⟨_, pss_one (ps_ret (pe_lc (te := teRead C tb) (own := [("line", 1)]) rfl scR.nd (pi_list (pv 0)) blkR (fun _ _ _ _ _ => pg_name (i := 1) scR.nd rfl (Or.inl rfl)) (fun _ _ _ _ _ => pts_nil)
      (fun _ _ _ _ _ => by exact pe_meth0 (pe_make M GI hr2 (by rfl) TL.cls bI .nil pass0 (pa_cons (pv 1) pa_nil)) T.cl mW GW hr bW .nil pass0))), ?_⟩
    refine ⟨_, rfl, p, rfl, ⟨_, SqL.of hL.lst⟩, fun D hD => lc_list (K := K) (a := p) (xs := as.map V.ref) (fun i H' => ∃ qs : List Addr, SameT H H' ∧ Tab tb H' ∧ WiresAt H' D qs ((ls.take i).map Jm.wireAt) ∧ H D = none) ?_ (fun i H' _ ⟨_, s1, _⟩ => SqL.of (s1 _ _ hL.lst trivial)) ?_ ?_⟩
    · have u0 : Same H (upd H D (.lst [])) := fun d o e => by rw [upd_ne (ne_of_none e hD)]; exact e
      exact ⟨[], u0.t, u0.tab hT, ⟨upd_same, by simp, fun i q w h1 => by simp at h1⟩, hD⟩
    · rintro i x H' hx ⟨qs, s1, hT1, hW, hDn⟩
      obtain ⟨la, hla, rfl⟩ := ref_get hx
      have hi : i < ls.length := by rw [← hL.len]; exact (List.getElem?_eq_some_iff.mp hla).1
      obtain ⟨l, hl⟩ : ∃ l, ls[i]? = some l := ⟨_, List.getElem?_eq_getElem hi⟩
      have hlat := hL.at_ i la l hla hl
      refine ⟨rfl, ?_⟩
      unfold tYes
      dsimp only
      rw [if_pos rfl]
      refine ⟨_, rfl, fun x dx nx nd nex => ⟨x, dx, la, rfl, upd_same, fun H3 h3 b3 => ⟨rfl, ?_⟩⟩⟩
      obtain ⟨hR3, u3⟩ := reader_new nx nd (s1 _ _ hlat trivial) (hsm l (List.mem_of_getElem? hl)) h3 b3
      have hT3 := u3.tab hT1
      refine ⟨x, dx, _, rfl, h3, noW, x, la, l, rfl, hR3, hT3, fun H4 hR4 b4 hT4 => ⟨fun hno => ?_, fun hyes q hq => ?_⟩⟩
      · rw [hok l (List.mem_of_getElem? hl)] at hno
        cases hno
      · have u4 : SameT H' H4 := reader_done nx u3 b4
        have hW4 := hW.same u4
        refine ⟨_, hW4.lst, ?_, ?_⟩
        · rw [List.length_map, hW4.len, List.length_map, List.length_take]
          exact small1000 (by omega)
        · have fD : ∀ d o, H d = some o → d ≠ D := fun d o e => ne_of_none e hDn
          have tq : ∀ d xs, H4 d = some (.tup xs) → d ≠ D := fun d xs e => ne_of e hW4.lst (by intro z; cases z)
          have keepT : ∀ {d : Addr} {w : Pu.Wire} {ys : List V}, WireAt H4 d w → WireAt (upd H4 D (.lst ys)) d w := fun {d w ys} ⟨q1, q2, z1, z2, z3⟩ =>
            ⟨q1, q2, by rw [upd_ne (tq _ _ z1)]; exact z1, by rw [upd_ne (tq _ _ z2)]; exact z2, by rw [upd_ne (tq _ _ z3)]; exact z3⟩
          have et : ls.take (i + 1) = ls.take i ++ [l] := by
            obtain ⟨z1, z2⟩ := List.getElem?_eq_some_iff.mp hl
            rw [← z2]; simp
          refine ⟨qs ++ [q], fun d o e nt => ?_, TabAt.list hT4 hW4.lst, ⟨?_, ?_, fun j d w z1 z2 => ?_⟩, hDn⟩
          · rw [upd_ne (fD d o e)]
            exact u4 _ _ (s1 _ _ e nt) nt
          · rw [upd_same, List.map_append]
            rfl
          · rw [et, List.map_append, List.length_append, List.length_append, hW.len]
            rfl
          · rw [et, List.map_append] at z2
            have hlen := hW.len
            by_cases hj : j < qs.length
            · rw [List.getElem?_append_left hj] at z1
              rw [List.getElem?_append_left (by rw [← hlen]; exact hj)] at z2
              exact keepT (hW4.at_ j d w z1 z2)
            · rw [List.getElem?_append_right (by omega)] at z1
              rw [List.getElem?_append_right (by rw [← hlen]; omega), ← hlen] at z2
              have e0 : j - qs.length = 0 := by
                have := (List.getElem?_eq_some_iff.mp z1).1
                simp at this
                omega
              rw [e0] at z1 z2
              have e1 : q = d := by simpa using z1
              have e2 : Jm.wireAt l = w := by simpa using z2
              rw [← e1, ← e2]
              exact keepT hq
    · rintro H' ⟨qs, s1, hT1, hW, _⟩
      rw [List.length_map, hL.len, List.take_length] at hW
      exact k H' D qs s1 hT1 hW
end
end Hb
end

section
set_option Elab.async false
set_option linter.all false
set_option maxRecDepth 100000
set_option maxHeartbeats 4000000
namespace Hb
open PySem PySem.Spec PyProof.Rows L2
open Pu (Box Wire)
abbrev sBox : Stmt := top 17
abbrev sCome : Stmt := top 18
/-! ### boxes -/
def bName (s : Nat) : Str := if s = 1 then "split" else if s = 2 then "look" else if s = 3 then "chosen" else "both"
def bk (b : Box) : List Key := [Sum.inr (bName b.1), Sum.inl (b.2 : Int)]
def bT (b : Box) : List V := [.str (bName b.1), .int (b.2 : Nat)]
theorem bT_k (b : Box) : (bk b).map kV = bT b := rfl
def Bx (b : Box) : Prop := 1 ≤ b.1 ∧ b.1 ≤ 4
theorem bName_inj : ∀ a, a < 5 → ∀ b, b < 5 → 1 ≤ a → 1 ≤ b → bName a = bName b → a = b := by decide +kernel
theorem bk_inj {a b : Box} (ha : Bx a) (hb : Bx b) (h : bk a = bk b) : a = b := by
  obtain ⟨a1, a2⟩ := a
  obtain ⟨b1, b2⟩ := b
  unfold bk at h
  have h1 : bName a1 = bName b1 := Sum.inr.inj (List.cons.inj h).1
  have h2 : (a2 : Int) = b2 := Sum.inl.inj (List.cons.inj (List.cons.inj h).2).1
  have := bName_inj a1 (by have := ha.2; simp at this; omega) b1 (by have := hb.2; simp at this; omega) ha.1 hb.1 h1
  have h3 : a2 = b2 := by omega
  rw [this, h3]
theorem out_bx {w : Wire} {b : Box} (h : w.outOf = some b) : Bx b := by
  unfold Pu.Wire.outOf at h
  unfold Bx
  split at h
  · cases h; simp
  · split at h
    · cases h; simp
    · split at h
      · cases h; simp
      · split at h
        · cases h; simp
        · cases h
theorem in_bx {w : Wire} {b : Box} (h : w.inTo = some b) : Bx b := by
  unfold Pu.Wire.inTo at h
  unfold Bx
  split at h
  · cases h; simp
  · split at h
    · cases h; simp
    · split at h
      · cases h; simp
      · split at h
        · cases h; simp
        · cases h
/-! ### box_of -/
def bkPairs : List (Str × Str) := [("upper", "split"), ("lower", "split"), ("split", "split"), ("hole", "look"), ("look", "look"), ("chosen", "chosen"), ("by", "chosen"), ("plain", "chosen"), ("other", "chosen"), ("both", "both"), ("one", "both"), ("two", "both")]
def bkF (x : Str) : Option V := (bkPairs.lookup x).map V.str
def spBox : Sp := fun vs H Q _ => ∃ (h : Addr) (z : Str) (n : Int) (rest : List V), vs = [.ref h] ∧ H h = some (.tup (.str z :: .int n :: rest)) ∧
  (bkPairs.lookup z = none → Q .non H) ∧ ∀ kd, bkPairs.lookup z = some kd → ∀ (H' : Hp) (q : Addr), Same H H' → H' q = some (.tup [.str kd, .int n]) → Q (.ref q) H'
structure TxtB (w : World) (K : PySem.W.Frag) (mg : Str → Option Value) (ab : Addr) : Prop where
  bk : mg "BOX_KINDS" = some (.ref ab)
  d : KDict w K ab bkF
section
variable {P : Program} {w : World} {K : PySem.W.Frag} {mg : Str → Option Value} {base : Heap}
theorem scB : FnScope ["hub", "kind"] ["hub"] (defScope sBox) := ⟨rfl, rfl, rfl, by decide +kernel, rfl, by decide +kernel, by decide +kernel⟩
theorem ok_box {f ab : Addr} {fd : FuncData} (F : Fun K "box_of" "box_of" sBox f fd) (TB : TxtB w K mg ab) : FnOk P w K mg base CX0 1 f fd ["hub"] spBox := by
  refine F.ok scB (fun vs H Q E h => ?_) (fun cdv A outer s H vs Q E hr h => ?_)
  · obtain ⟨h, z, n, rest, rfl, _⟩ := h
    rfl
  · obtain ⟨h, z, n, rest, rfl, hh, k1, k2⟩ := h
    refine ⟨_, pss_cons (ps_set (i := 1) scB.nd rfl (Or.inl rfl) (pe_kget1 (pe_glob (v := .ref ab) (by rfl) TB.bk rfl) (pe_ix ix_tup (pv 0) pe_int (fun _ _ => rfl)) ⟨rfl, rfl, rfl, rfl⟩))
      (pss_cons (ps_if (pt_cmp (pc_isN (pv 1))) (pss_one (ps_ret pe_non)) pss_nil)
      (pss_one (ps_ret (pe_tup (pa_cons (pv 1) (pa_cons (pe_ix ix_tup (pv 0) pe_int (fun _ _ => rfl)) pa_nil)))))), ?_⟩
    refine ⟨ab, bkF, rfl, TB.d, _, rfl, h, _, _, _, rfl, rfl, SqT.of hh, at_of (j := 0) rfl rfl, z, rfl, ?_⟩
    cases e : bkPairs.lookup z with
    | none =>
      have e2 : (bkF z).getD .non = .non := by unfold bkF; rw [e]; rfl
      rw [e2]
      exact ⟨_, rfl, _, rfl, iteT (k1 e)⟩
    | some kd =>
      have e2 : (bkF z).getD .non = .str kd := by unfold bkF; rw [e]; rfl
      rw [e2]
      refine ⟨_, rfl, _, rfl, iteF ⟨_, rfl, _, rfl, h, _, _, _, rfl, rfl, SqT.of hh, at_of (j := 1) rfl rfl, (by show 2 ≤ sizeLine; decide), fun q hq => ?_⟩⟩
      exact k2 kd e _ q (fun d o z => by rw [upd_ne (ne_of_none z hq)]; exact z) upd_same
end
/-! ### comes_to -/
/-- tuples of boxes -/
structure TupsAt (H : Hp) (ts : List Addr) (ys : List Box) : Prop where
  len : ts.length = ys.length
  at_ : ∀ (i : Nat) (t : Addr) (y : Box), ts[i]? = some t → ys[i]? = some y → H t = some (.tup (bT y))
theorem TupsAt.mono {H H' : Hp} {ts : List Addr} {ys : List Box} (h : TupsAt H ts ys) (k : ∀ t xs, H t = some (.tup xs) → H' t = some (.tup xs)) : TupsAt H' ts ys := ⟨h.len, fun i t y h1 h2 => k _ _ (h.at_ i t y h1 h2)⟩
theorem TupsAt.snoc {H : Hp} {ts : List Addr} {ys : List Box} {t : Addr} {y : Box} (h : TupsAt H ts ys) (ht : H t = some (.tup (bT y))) : TupsAt H (ts ++ [t]) (ys ++ [y]) := by
  refine ⟨by rw [List.length_append, List.length_append, h.len]; rfl, fun i a b h1 h2 => ?_⟩
  by_cases hi : i < ts.length
  · rw [List.getElem?_append_left hi] at h1
    rw [List.getElem?_append_left (by rw [← h.len]; exact hi)] at h2
    exact h.at_ i a b h1 h2
  · rw [List.getElem?_append_right (by omega)] at h1
    rw [List.getElem?_append_right (by rw [← h.len]; omega), ← h.len] at h2
    have e : i - ts.length = 0 := by
      have := (List.getElem?_eq_some_iff.mp h1).1
      simp at this
      omega
    rw [e] at h1 h2
    have e1 : t = a := by simpa using h1
    have e2 : y = b := by simpa using h2
    rw [← e1, ← e2]
    exact ht
/-- what the boxes send to, in the dict at d -/
structure GraphAt (H : Hp) (d : Addr) (l : List Wire) : Prop where
  ex : ∃ kvs : List (List Key × V), H d = some (.dT kvs) ∧ kvs.length ≤ l.length ∧ ∀ x : Box, Bx x →
    (valV kvs (bk x) = none → ∀ y, ¬ Jm.Edge l x y) ∧
    ∀ v, valV kvs (bk x) = some v → ∃ (lx : Addr) (ts : List Addr) (ys : List Box), v = .ref lx ∧ H lx = some (.lst (ts.map V.ref)) ∧ TupsAt H ts ys ∧ (∀ y, y ∈ ys ↔ Jm.Edge l x y) ∧ ys.length ≤ l.length
theorem GraphAt.same {H H' : Hp} {d : Addr} {l : List Wire} (h : GraphAt H d l) (e : Same H H') : GraphAt H' d l := by
  obtain ⟨kvs, h1, h2, h3⟩ := h.ex
  refine ⟨kvs, e _ _ h1, h2, fun x hx => ⟨(h3 x hx).1, fun v hv => ?_⟩⟩
  obtain ⟨lx, ts, ys, e1, e2, e3, e4⟩ := (h3 x hx).2 v hv
  exact ⟨lx, ts, ys, e1, e _ _ e2, e3.mono fun t xs z => e _ _ z, e4⟩
def spCome : Sp := fun vs H Q _ => ∃ (d sa ga : Addr) (l : List Wire) (a b : Box), vs = [.ref d, .ref sa, .ref ga] ∧ GraphAt H d l ∧ l.length ≤ 256 ∧ Bx a ∧ Bx b ∧ H sa = some (.tup (bT a)) ∧ H ga = some (.tup (bT b)) ∧
  ∀ (r : Bool) (H' : Hp), (r = true ↔ Jm.Reach l a b) → Same H H' → Q (.bl r) H'
theorem bName_ok : ∀ a, a < 5 → PyData.strOk (bName a) = true := by decide +kernel
theorem dp_box {K : PySem.W.Frag} {H : Hp} {t : Addr} {b : Box} (h : H t = some (.tup (bT b))) : Dp K H (.ref t) (.tuple [.str (bName b.1), .int (b.2 : Nat)]) :=
  .tup (SqT.of h) (.cons (.str _) (.cons (.int _) .nil))
theorem shaped_box {b : Box} (h : Bx b) : SeqAt.shaped (.tuple [.str (bName b.1), .int (b.2 : Nat)]) = true := by
  have e := bName_ok b.1 (by have := h.2; omega)
  unfold SeqAt.shaped
  simp only [PyData.canLay0, PyData.canLayAll0, e, Bool.and_true, Bool.true_and]
  simp [PyData.depth, PyData.depthAll]
theorem eqv_box {a b : Box} (ha : Bx a) (hb : Bx b) : PyData.eqv (.tuple [.str (bName a.1), .int (a.2 : Nat)]) (.tuple [.str (bName b.1), .int (b.2 : Nat)]) = decide (a = b) := by
  simp only [PyData.eqv, PyData.eqvAll, Bool.and_true]
  rw [Bool.eq_iff_iff, Bool.and_eq_true, beq_iff_eq, beq_iff_eq, decide_eq_true_iff]
  constructor
  · rintro ⟨h1, h2⟩
    refine bk_inj ha hb ?_
    unfold bk
    rw [h1, h2]
  · rintro rfl
    exact ⟨rfl, rfl⟩
section
variable {P : Program} {w : World} {K : PySem.W.Frag} {mg : Str → Option Value} {base : Heap}
theorem scT : FnScope ["sends_to", "start", "goal", "seen", "waiting", "box", "follower"] ["sends_to", "start", "goal"] (defScope sCome) := ⟨rfl, rfl, rfl, by decide +kernel, rfl, by decide +kernel, by decide +kernel⟩
/-- the boxes seen, as the dict's pairs -/
def seenK (sk : List Box) : List (List Key × V) := sk.map fun x => (bk x, V.bl true)
theorem seen_none {sk : List Box} {x : Box} (hx : Bx x) (hs : ∀ y ∈ sk, Bx y) : valV (seenK sk) (bk x) = none ↔ x ∉ sk := by
  induction sk with
  | nil => simp [seenK, valV]
  | cons y sk ih =>
    have ih := ih fun z hz => hs z (List.mem_cons_of_mem _ hz)
    have e : seenK (y :: sk) = (bk y, V.bl true) :: seenK sk := rfl
    rw [e]
    by_cases h : y = x
    · subst h
      rw [valV_pos rfl]
      simp
    · rw [valV_neg (fun q => h (bk_inj (hs y List.mem_cons_self) hx q)), ih]
      simp [Ne.symm h]
theorem seen_put {sk : List Box} {x : Box} (hx : Bx x) (hs : ∀ y ∈ sk, Bx y) (h : x ∉ sk) : putK (seenK sk) (bk x) (.bl true) = seenK (sk ++ [x]) := by
  rw [putK_new _ ((seen_none hx hs).mpr h)]
  unfold seenK
  rw [List.map_append]
  rfl
theorem edge_bx {l : List Wire} {x y : Box} (e : Jm.Edge l x y) : Bx x ∧ Bx y := let ⟨_, _, h1, h2⟩ := e; ⟨out_bx h1, in_bx h2⟩
theorem reach_bx {l : List Wire} {a x : Box} (ha : Bx a) (r : Jm.Reach l a x) : Bx x := by
  cases r with
  | refl => exact ha
  | step _ e => exact (edge_bx e).2
/-- no more boxes than wires and one -/
theorem seen_len {l : List Wire} {a : Box} {sk : List Box} (hn : sk.Nodup) (hr : ∀ x ∈ sk, Jm.Reach l a x) : sk.length ≤ l.length + 1 := by
  have h := Jm.nodup_len sk (a :: l.filterMap Pu.Wire.inTo) hn fun x hx => by
    cases hr x hx with
    | refl => exact List.mem_cons_self
    | step _ e =>
      obtain ⟨w, hw, _, h2⟩ := e
      exact List.mem_cons_of_mem _ (List.mem_filterMap.mpr ⟨w, hw, h2⟩)
  have h2 := List.length_filterMap_le Pu.Wire.inTo l
  simp at h
  omega
/-- between two turns: seen, waiting -/
structure Srch (l : List Wire) (a b : Box) (sk wb : List Box) : Prop where
  nd : sk.Nodup
  wn : wb.Nodup
  rch : ∀ x ∈ sk, Jm.Reach l a x
  sub : ∀ x ∈ wb, x ∈ sk
  cls : ∀ x ∈ sk, x ∉ wb → x ≠ b ∧ ∀ y, Jm.Edge l x y → y ∈ sk
  src : a ∈ sk
theorem Srch.done {l : List Wire} {a b : Box} {sk : List Box} (h : Srch l a b sk []) : ¬ Jm.Reach l a b := by
  intro r
  have all : ∀ x, Jm.Reach l a x → x ∈ sk := fun x hx => by
    induction hx with
    | refl => exact h.src
    | step _ e ih => exact (h.cls _ ih (by simp)).2 _ e
  exact (h.cls b (all b r) (by simp)).1 rfl
/-- within a turn: x is taken, of its followers some are done -/
structure Srch2 (l : List Wire) (a b x : Box) (sk wb dn : List Box) : Prop where
  nd : sk.Nodup
  wn : wb.Nodup
  rch : ∀ x ∈ sk, Jm.Reach l a x
  sub : ∀ x ∈ wb, x ∈ sk
  cls : ∀ y ∈ sk, y ∉ wb → y ≠ x → y ≠ b ∧ ∀ z, Jm.Edge l y z → z ∈ sk
  src : a ∈ sk
  xin : x ∈ sk
  xno : x ∉ wb
  don : ∀ y ∈ dn, y ∈ sk
theorem asg_nx {i : Nat} {v : V} {σ : L2.St} {H : Hp} {t u : TS} {D : Ends} (h : t { D with nx := u D } (σ.set i (some v)) H) : gName i v σ H (tSeq t u D) := h
theorem ok_come {f : Addr} {fd : FuncData} (F : Fun K "comes_to" "comes_to" sCome f fd) : FnOk P w K mg base CX0 1 f fd ["sends_to", "start", "goal"] spCome := by
  refine F.ok scT (fun vs H Q E h => ?_) (fun cdv A outer s H vs Q E hr h => ?_)
  · obtain ⟨d, sa, ga, l, a, b, rfl, _⟩ := h
    rfl
  · obtain ⟨d, sa, ga, l, a, b, rfl, hG, hl, ha, hb, hsa, hga, k⟩ := h
    have hu := hu_of hr
    obtain ⟨kvs, hd, hkl, hgr⟩ := hG.ex
    refine ⟨_, pss_cons (ps_set (i := 3) scT.nd rfl (Or.inl rfl) (pe_disp1T hu (pv 1) pe_bl))
      (pss_cons (ps_set (i := 4) scT.nd rfl (Or.inl rfl) (pe_lst (pa_cons (pv 1) pa_nil)))
      (pss_cons (ps_while PassesOwn.never (pt_truth (pv 4) (fun _ => rfl))
        (pss_cons (ps_set (i := 5) scT.nd rfl (Or.inl rfl) (pe_bm0 PySem.F.plainAttrs_list PySem.F.slot_list_pop PySem.F.type_list_pop mt_pop (pv 4)))
        (pss_cons (ps_if (pt_cmpR (op_eqD hr.units) (pv 5) (pv 2) (nomark _)) (pss_one (ps_ret pe_bl)) pss_nil)
        (pss_one (ps_for PassesOwn.never rfl (pi_list (pe_dget2 hu (pv 0) (pv 5) (pe_lst pa_nil) ⟨rfl, rfl, rfl, rfl⟩)) (pg_name (i := 6) scT.nd rfl (Or.inl rfl))
          (pss_one (ps_if (pt_cmp (pc_dnotin hu (pv 6) (pv 3)) (by with_unfolding_all rfl))
            (pss_cons (ps_dput hu (pv 3) (pv 6) pe_bl rfl) (pss_one (ps_expr (pe_bm PySem.F.plainAttrs_list PySem.F.slot_list_append PySem.F.type_list_append mt_append (pv 4) (pa_cons (pv 6) pa_nil))))) pss_nil)))))))
      (pss_one (ps_ret pe_bl)))), ?_⟩
    refine fun sd hsd => ⟨_, rfl, upd_same, bk a, sa, rfl, (by rw [upd_ne (ne_of_none hsa hsd)]; exact hsa), _, rfl, (by show 1 ≤ sizeLine; decide), fun wd hwd => ?_⟩
    have nsw : wd ≠ sd := fun e => by rw [e, upd_same] at hwd; cases hwd
    have hwdH : H wd = none := by
      rw [upd_ne nsw, upd_ne nsw] at hwd
      exact hwd
    have frS : ∀ c o, H c = some o → c ≠ sd := fun c o e => ne_of_none e hsd
    have frW : ∀ c o, H c = some o → c ≠ wd := fun c o e => ne_of_none e hwdH
    have eqk : upd (upd H sd (.dT [])) sd (.dT [(bk a, V.bl true)]) = upd H sd (.dT [(bk a, V.bl true)]) := upd_upd
    dsimp only
    refine asg_nx ?_
    refine while_by (fun σ H' => ∃ (sk wb : List Box) (wt : List Addr) (v5 v6 : Option V), σ = [some (.ref d), some (.ref sa), some (.ref ga), some (.ref sd), some (.ref wd), v5, v6] ∧ Same H H' ∧ H' sd = some (.dT (seenK sk)) ∧ H' wd = some (.lst (wt.map V.ref)) ∧ TupsAt H' wt wb ∧ Srch l a b sk wb)
      (fun σ H' => match H' sd, H' wd with | some (.dT kv), some (.lst xs) => (l.length + 1 - kv.length) + xs.length | _, _ => 0) ?_ ?_ ?_
    · refine ⟨[a], [a], [sa], none, none, rfl, fun c o e => ?_, ?_, upd_same, ⟨rfl, fun i t y h1 h2 => ?_⟩, ⟨by simp, by simp, fun x hx => by rw [List.mem_singleton.mp hx]; exact .refl, fun x hx => hx, fun x hx hn => absurd hx hn, by simp⟩⟩
      · rw [upd_ne (frW c o e), eqk, upd_ne (frS c o e)]
        exact e
      · rw [upd_ne (Ne.symm nsw), upd_same]
        rfl
      · cases i with
        | zero =>
          have e1 : sa = t := by simpa using h1
          have e2 : a = y := by simpa using h2
          rw [← e1, ← e2, upd_ne (frW _ _ hsa), eqk, upd_ne (frS _ _ hsa)]
          exact hsa
        | succ i => simp at h1
    · rintro σ H' ⟨sk, wb, wt, v5, v6, rfl, s1, hs1, hw1, htu, hS⟩
      refine ⟨_, rfl, _, .inl ⟨_, SqL.of hw1, rfl⟩, ite2 (fun hne => ?_) fun hne => ?_⟩
      · -- a box is taken
        have hne' : wt ≠ [] := fun e => by rw [e] at hne; exact absurd hne (by decide)
        obtain ⟨wt0, t, rfl⟩ : ∃ w0 t, wt = w0 ++ [t] := (List.eq_nil_or_concat wt).resolve_left hne' |>.imp fun _ ⟨t, h⟩ => ⟨t, by rw [h, List.concat_eq_append]⟩
        have hwl := htu.len
        have hwb' : wb ≠ [] := fun e => by rw [e] at hwl; simp at hwl
        obtain ⟨wb0, x, rfl⟩ : ∃ w0 t, wb = w0 ++ [t] := (List.eq_nil_or_concat wb).resolve_left hwb' |>.imp fun _ ⟨t, h⟩ => ⟨t, by rw [h, List.concat_eq_append]⟩
        have hl0 : wt0.length = wb0.length := by simpa using hwl
        have htx : H' t = some (.tup (bT x)) := htu.at_ wt0.length t x (by simp) (by rw [hl0]; simp)
        have htu0 : TupsAt H' wt0 wb0 := ⟨hl0, fun i q y h1 h2 => htu.at_ i q y (by rw [List.getElem?_append_left (List.getElem?_eq_some_iff.mp h1).1]; exact h1) (by rw [List.getElem?_append_left (List.getElem?_eq_some_iff.mp h2).1]; exact h2)⟩
        have hxs : x ∈ sk := hS.sub x (by simp)
        have hxr := hS.rch x hxs
        have hxb : Bx x := reach_bx ha hxr
        have hxn : x ∉ wb0 := fun m => by
          have := (List.nodup_append.mp hS.wn).2.2 x m x (by simp)
          exact this rfl
        have elast : ((wt0 ++ [t]).map V.ref)[((wt0 ++ [t]).map V.ref).length - 1]? = some (V.ref t) := by simp
        have edrop : ((wt0 ++ [t]).map V.ref).dropLast = wt0.map V.ref := by simp
        refine ⟨_, rfl, .inl ⟨rfl, _, SqL.of hw1⟩, wd, _, _, rfl, rfl, hw1, elast, ?_⟩
        rw [edrop]
        have tw : ∀ c xs, H' c = some (.tup xs) → c ≠ wd := fun c xs e => ne_of e hw1 (by intro q; cases q)
        have s2 : Same H (upd H' wd (.lst (wt0.map V.ref))) := fun c o e => by rw [upd_ne (frW c o e)]; exact s1 _ _ e
        have ht2 : (upd H' wd (.lst (wt0.map V.ref))) t = some (.tup (bT x)) := by rw [upd_ne (tw _ _ htx)]; exact htx
        have hs2 : (upd H' wd (.lst (wt0.map V.ref))) sd = some (.dT (seenK sk)) := by rw [upd_ne (Ne.symm nsw)]; exact hs1
        have htu2 : TupsAt (upd H' wd (.lst (wt0.map V.ref))) wt0 wb0 := htu0.mono fun c xs e => by rw [upd_ne (tw _ _ e)]; exact e
        have hw2 : (upd H' wd (.lst (wt0.map V.ref))) wd = some (.lst (wt0.map V.ref)) := upd_same
        have mu0 : (match H' sd, H' wd with | some (.dT kv), some (.lst xs) => (l.length + 1 - kv.length) + xs.length | _, _ => 0) = (l.length + 1 - sk.length) + (wb0.length + 1) := by
          rw [hs1, hw1]
          show (l.length + 1 - (seenK sk).length) + ((wt0 ++ [t]).map V.ref).length = _
          unfold seenK
          rw [List.length_map, List.length_map, List.length_append, hl0]
          rfl
        rw [mu0]
        obtain ⟨skn, hskn⟩ : ∃ n, n = sk.length := ⟨_, rfl⟩
        generalize upd H' wd (.lst (wt0.map V.ref)) = H2 at s2 ht2 hs2 htu2 hw2
        refine ⟨_, rfl, _, rfl, _, _, dp_box ht2, dp_box (s2 _ _ hga), shaped_box hxb, shaped_box hb, _, rfl, ?_⟩
        rw [eqv_box hxb hb]
        refine ite2 (fun heq => ?_) fun heq => ?_
        · have heq' : x = b := of_decide_eq_true heq
          subst heq'
          exact k true H2 ⟨fun _ => hxr, fun _ => rfl⟩ s2
        · have hnb : x ≠ b := fun q => heq (decide_eq_true q)
          refine ⟨_, rfl, d, rfl, .inr ⟨_, .inl (s2 _ _ hd)⟩, _, rfl, (by show 0 ≤ sizeLine; decide), fun e he => ?_⟩
          have u3 : Same H2 (upd H2 e (.lst [])) := fun c o z => by rw [upd_ne (ne_of_none z he)]; exact z
          refine ⟨valV kvs (bk x), DGet.t (u3 _ _ (s2 _ _ hd)) (u3 _ _ ht2), ?_⟩
          obtain ⟨lx, ts, ys, ev, hlx, hty, hed, nlw⟩ : ∃ (lx : Addr) (ts : List Addr) (ys : List Box), (valV kvs (bk x)).getD (.ref e) = .ref lx ∧ (upd H2 e (.lst [])) lx = some (.lst (ts.map V.ref)) ∧ TupsAt (upd H2 e (.lst [])) ts ys ∧ (∀ y, y ∈ ys ↔ Jm.Edge l x y) ∧ lx ≠ wd := by
            cases q : valV kvs (bk x) with
            | none => exact ⟨e, [], [], rfl, upd_same, ⟨rfl, fun i t y h1 => by simp at h1⟩, fun y => ⟨fun m => (by cases m), fun m => absurd m ((hgr x hxb).1 q y)⟩, Ne.symm (ne_of_none hw2 he)⟩
            | some v =>
              obtain ⟨lx, ts, ys, rfl, h1, h2, h3, _⟩ := (hgr x hxb).2 v q
              exact ⟨lx, ts, ys, rfl, u3 _ _ (s2 _ _ h1), h2.mono fun c xs z => u3 _ _ (s2 _ _ z), h3, frW _ _ h1⟩
          rw [ev]
          have s3 := s2.trans u3
          refine ⟨lx, rfl, ⟨_, SqL.of hlx⟩, for_list (K := K) (a := lx) (xs := ts.map V.ref) (fun j σ H3 => ∃ (sk wb : List Box) (wt : List Addr) (v6 : Option V), σ = [some (.ref d), some (.ref sa), some (.ref ga), some (.ref sd), some (.ref wd), some (.ref t), v6] ∧ Same H H3 ∧ H3 sd = some (.dT (seenK sk)) ∧ H3 wd = some (.lst (wt.map V.ref)) ∧ TupsAt H3 wt wb ∧
              H3 lx = some (.lst (ts.map V.ref)) ∧ TupsAt H3 ts ys ∧ Srch2 l a b x sk wb (ys.take j) ∧ (l.length + 1 - sk.length) + wb.length ≤ (l.length + 1 - skn) + wb0.length) ?_ (fun j σ H3 _ ⟨_, _, _, _, _, _, _, _, _, h, _⟩ => SqL.of h) ?_ ?_⟩
          · exact ⟨sk, wb0, wt0, v6, rfl, s3, u3 _ _ hs2, u3 _ _ hw2, htu2.mono fun c xs z => u3 _ _ z, hlx, hty, ⟨hS.nd, (List.nodup_append.mp hS.wn).1, hS.rch, fun z hz => hS.sub z (List.mem_append_left _ hz), fun y hy hn hx => hS.cls y hy (fun m => (List.mem_append.mp m).elim hn fun m => hx (List.mem_singleton.mp m)), hS.src, hxs, hxn, fun y hy => by cases hy⟩, by rw [hskn]; exact Nat.le_refl _⟩
          · rintro j yv σ H3 hj ⟨sk, wb, wt, v6, rfl, s4, hs4, hw4, htu4, hlx4, hty4, hS4, hm⟩
            obtain ⟨tj, htj, rfl⟩ : ∃ tj, ts[j]? = some tj ∧ V.ref tj = yv := by
              rw [List.getElem?_map] at hj
              exact Option.map_eq_some_iff.mp hj
            have hjl : j < ys.length := by rw [← hty4.len]; exact (List.getElem?_eq_some_iff.mp htj).1
            obtain ⟨y, hy⟩ : ∃ y, ys[j]? = some y := ⟨_, List.getElem?_eq_getElem hjl⟩
            have hE : Jm.Edge l x y := (hed y).mp (List.mem_of_getElem? hy)
            have hyb : Bx y := (edge_bx hE).2
            have htjy := hty4.at_ j tj y htj hy
            have hskb : ∀ z ∈ sk, Bx z := fun z hz => reach_bx ha (hS4.rch z hz)
            have etk : ys.take (j + 1) = ys.take j ++ [y] := by rw [List.take_add_one, hy]; rfl
            refine ⟨_, rfl, _, rfl, sd, _, rfl, DGet.t (k := bk y) hs4 htjy, _, rfl, ?_⟩
            refine ite2 (fun hnew => ?_) fun hnew => ?_
            · have hn : y ∉ sk := by
                refine (seen_none hyb hskb).mp ?_
                cases q : valV (seenK sk) (bk y) with
                | none => rfl
                | some v => rw [q] at hnew; exact Bool.noConfusion hnew
              have hlen : sk.length ≤ l.length + 1 := seen_len hS4.nd hS4.rch
              have hlen2 : (sk ++ [y]).length ≤ l.length + 1 := seen_len (List.nodup_append.mpr ⟨hS4.nd, by simp, fun u hu v hv e => by rw [List.mem_singleton.mp hv] at e; exact hn (e ▸ hu)⟩) (l := l) (a := a) fun z hz => (List.mem_append.mp hz).elim (hS4.rch z) fun m => by rw [List.mem_singleton.mp m]; exact .step (hS4.rch x hS4.xin) hE
              have hwlen : wt.length ≤ l.length + 1 := by
                rw [htu4.len]
                exact Nat.le_trans (Jm.nodup_len wb sk hS4.wn hS4.sub) hlen
              have tS : ∀ c xs, H3 c = some (.tup xs) → c ≠ sd := fun c xs e => ne_of e hs4 (by intro q; cases q)
              have tW : ∀ c xs, H3 c = some (.tup xs) → c ≠ wd := fun c xs e => ne_of e hw4 (by intro q; cases q)
              refine ⟨_, rfl, _, rfl, sd, _, rfl, DPut.t (k := bk y) hs4 htjy (by unfold seenK; rw [List.length_map]; exact Nat.lt_of_le_of_lt (Nat.le_trans hlen (Nat.add_le_add_right hl 1)) (by decide)), ?_⟩
              rw [seen_put hyb hskb hn]
              have hw5 : (upd H3 sd (.dT (seenK (sk ++ [y])))) wd = some (.lst (wt.map V.ref)) := by rw [upd_ne nsw]; exact hw4
              refine ⟨_, rfl, .inl ⟨rfl, _, SqL.of hw5⟩, _, rfl, wd, _, _, rfl, rfl, hw5, (by rw [List.length_map]; exact Nat.lt_of_le_of_lt (Nat.le_trans hwlen (Nat.add_le_add_right hl 1)) (by decide)), ?_⟩
              have tK : ∀ c xs, H3 c = some (.tup xs) → (upd (upd H3 sd (.dT (seenK (sk ++ [y])))) wd (.lst (wt.map V.ref ++ [V.ref tj]))) c = some (.tup xs) := fun c xs e => by rw [upd_ne (tW _ _ e), upd_ne (tS _ _ e)]; exact e
              refine ⟨sk ++ [y], wb ++ [y], wt ++ [tj], _, rfl, fun c o e => ?_, ?_, ?_, ?_, ?_, ?_, ⟨?_, ?_, ?_, ?_, ?_, ?_, ?_, ?_, ?_⟩, ?_⟩
              · rw [upd_ne (frW c o e), upd_ne (frS c o e)]
                exact s4 _ _ e
              · rw [upd_ne (Ne.symm nsw), upd_same]
              · rw [upd_same, List.map_append]
                rfl
              · exact (htu4.mono tK).snoc (tK _ _ htjy)
              · rw [upd_ne nlw, upd_ne (ne_of hlx4 hs4 (by intro q; cases q))]
                exact hlx4
              · exact hty4.mono tK
              · exact List.nodup_append.mpr ⟨hS4.nd, by simp, fun u hu v hv e => by rw [List.mem_singleton.mp hv] at e; exact hn (e ▸ hu)⟩
              · exact List.nodup_append.mpr ⟨hS4.wn, by simp, fun u hu v hv e => by rw [List.mem_singleton.mp hv] at e; exact hn (hS4.sub _ (e ▸ hu))⟩
              · exact fun z hz => (List.mem_append.mp hz).elim (hS4.rch z) fun m => by rw [List.mem_singleton.mp m]; exact .step (hS4.rch x hS4.xin) hE
              · exact fun z hz => (List.mem_append.mp hz).elim (fun m => List.mem_append_left _ (hS4.sub z m)) fun m => List.mem_append_right _ m
              · intro z hz hnz hzx
                have hz2 : z ∈ sk := (List.mem_append.mp hz).elim id fun m => absurd (List.mem_append_right _ m) hnz
                have q := hS4.cls z hz2 (fun m => hnz (List.mem_append_left _ m)) hzx
                exact ⟨q.1, fun u hu => List.mem_append_left _ (q.2 u hu)⟩
              · exact List.mem_append_left _ hS4.src
              · exact List.mem_append_left _ hS4.xin
              · exact fun m => (List.mem_append.mp m).elim hS4.xno fun m => hn (by rw [← List.mem_singleton.mp m]; exact hS4.xin)
              · intro z hz
                rw [etk] at hz
                exact (List.mem_append.mp hz).elim (fun m => List.mem_append_left _ (hS4.don z m)) fun m => List.mem_append_right _ m
              · rw [List.length_append, List.length_append] at *
                simp only [List.length_singleton] at *
                omega
            · have hn : y ∈ sk := by
                refine Decidable.byContradiction fun q => hnew ?_
                rw [(seen_none hyb hskb).mpr q]
                rfl
              exact ⟨sk, wb, wt, _, rfl, s4, hs4, hw4, htu4, hlx4, hty4, ⟨hS4.nd, hS4.wn, hS4.rch, hS4.sub, hS4.cls, hS4.src, hS4.xin, hS4.xno, fun z hz => by
                rw [etk] at hz
                exact (List.mem_append.mp hz).elim (hS4.don z) fun m => by rw [List.mem_singleton.mp m]; exact hn⟩, hm⟩
          · rintro σ H3 ⟨sk, wb, wt, v6, rfl, s4, hs4, hw4, htu4, hlx4, hty4, hS4, hm⟩
            refine ⟨⟨sk, wb, wt, _, _, rfl, s4, hs4, hw4, htu4, ⟨hS4.nd, hS4.wn, hS4.rch, hS4.sub, fun y hy hn => ?_, hS4.src⟩⟩, ?_⟩
            · by_cases e : y = x
              · subst e
                refine ⟨hnb, fun z hz => hS4.don z ?_⟩
                rw [List.length_map, hty4.len, List.take_length]
                exact (hed z).mpr hz
              · exact hS4.cls y hy hn e
            · show (match H3 sd, H3 wd with | some (.dT kv), some (.lst xs) => (l.length + 1 - kv.length) + xs.length | _, _ => 0) < _
              rw [hs4, hw4]
              show (l.length + 1 - (seenK sk).length) + (wt.map V.ref).length < _
              unfold seenK
              rw [List.length_map, List.length_map, htu4.len, ← hskn]
              omega
      · have he : wt = [] := by
          cases q : wt with
          | nil => rfl
          | cons x r => rw [q] at hne; exact absurd rfl hne
        have hwl := htu.len
        rw [he] at hwl
        have he2 : wb = [] := List.length_eq_zero_iff.mp hwl.symm
        rw [he2] at hS
        have no := hS.done
        exact k false H' ⟨fun q => (by cases q), fun q => absurd q no⟩ s1
    · rintro σ H' Q1 Q2 hQ ⟨v, e, kk, h1, q⟩
      exact ⟨v, e, kk, h1, hQ _ _ q⟩
end
end Hb
end

section
set_option Elab.async false
set_option linter.all false
set_option maxRecDepth 100000
set_option maxHeartbeats 4000000
namespace Hb
open PySem PySem.Spec PyProof.Rows L2
open Pu (Box Wire)
abbrev sFault : Stmt := top 19
theorem put_len {κ : Type} [DecidableEq κ] (kvs : List (κ × V)) (k : κ) (v : V) : (putK kvs k v).length ≤ kvs.length + 1 := by
  unfold putK
  split
  · rw [List.length_map]; omega
  · rw [List.length_append]; exact Nat.le_refl _
/-! ### which box a hub is of -/
theorem look_s : ∀ k, k < 8 → bkPairs.lookup (sW k) = if k = 3 ∨ k = 4 then some (bName 1) else if k = 5 then some (bName 2) else if k = 6 then some (bName 3) else if k = 7 then some (bName 4) else none := by decide +kernel
theorem look_t : ∀ k, k < 8 → bkPairs.lookup (tW k) = if k = 1 then some (bName 1) else if k = 2 then some (bName 2) else if 3 ≤ k ∧ k ≤ 5 then some (bName 3) else if k = 6 ∨ k = 7 then some (bName 4) else none := by decide +kernel
theorem out_look (w : Wire) (h : w.kind < 8) : bkPairs.lookup (sW w.kind) = w.outOf.map (fun a => bName a.1) ∧ ∀ a, w.outOf = some a → a.2 = w.n := by
  rw [look_s _ h]
  unfold Pu.Wire.outOf
  split
  · exact ⟨rfl, fun a e => by cases e; rfl⟩
  · split
    · exact ⟨rfl, fun a e => by cases e; rfl⟩
    · split
      · exact ⟨rfl, fun a e => by cases e; rfl⟩
      · split
        · exact ⟨rfl, fun a e => by cases e; rfl⟩
        · exact ⟨rfl, fun a e => by cases e⟩
theorem in_look (w : Wire) (h : w.into < 8) : bkPairs.lookup (tW w.into) = w.inTo.map (fun a => bName a.1) ∧ ∀ a, w.inTo = some a → a.2 = w.k := by
  rw [look_t _ h]
  unfold Pu.Wire.inTo
  split
  · exact ⟨rfl, fun a e => by cases e; rfl⟩
  · split
    · exact ⟨rfl, fun a e => by cases e; rfl⟩
    · split
      · exact ⟨rfl, fun a e => by cases e; rfl⟩
      · split
        · exact ⟨rfl, fun a e => by cases e; rfl⟩
        · exact ⟨rfl, fun a e => by cases e⟩
theorem ok_lt {w : Wire} (h : w.ok = true) : w.kind < 8 ∧ w.into < 8 := by
  unfold Pu.Wire.ok at h
  simp only [Bool.and_eq_true, decide_eq_true_eq] at h
  omega
theorem hubS_two (w : Wire) : ∃ rest, hubSV w = .str (sW w.kind) :: .int (w.n : Nat) :: rest := by
  unfold hubSV Jm.sendNums
  split
  · exact ⟨_, rfl⟩
  · exact ⟨_, rfl⟩
/-! ### the hubs that were led to -/
def hk (w : Wire) : List Key := [Sum.inr (tW w.into), Sum.inl (w.k : Int)]
theorem hk_V (w : Wire) : (hk w).map kV = hubTV w := rfl
theorem tW_inj : ∀ a, a < 8 → ∀ b, b < 8 → tW a = tW b → a = b := by decide +kernel
theorem hk_inj {v w : Wire} (hv : v.into < 8) (hw : w.into < 8) : hk v = hk w ↔ v.into = w.into ∧ v.k = w.k := by
  unfold hk
  constructor
  · intro h
    have h1 := Sum.inr.inj (List.cons.inj h).1
    have h2 : (v.k : Int) = w.k := Sum.inl.inj (List.cons.inj (List.cons.inj h).2).1
    exact ⟨tW_inj _ hv _ hw h1, by omega⟩
  · rintro ⟨h1, h2⟩
    rw [h1, h2]
structure LedAt (H : Hp) (d : Addr) (l : List Wire) : Prop where
  ex : ∃ kvs : List (List Key × V), H d = some (.dT kvs) ∧ kvs.length ≤ l.length ∧ ∀ w : Wire, w.into < 8 → ((valV kvs (hk w)).isSome = true ↔ ∃ v ∈ l, v.into = w.into ∧ v.k = w.k)
theorem LedAt.same {H H' : Hp} {d : Addr} {l : List Wire} (h : LedAt H d l) (e : Same H H') : LedAt H' d l := by
  obtain ⟨kvs, h1, h2, h3⟩ := h.ex
  exact ⟨kvs, e _ _ h1, h2, h3⟩
theorem LedAt.put {H : Hp} {d : Addr} {l : List Wire} {w : Wire} {kvs : List (List Key × V)} (hw : w.into < 8) (hl : kvs.length ≤ l.length) (h : ∀ w : Wire, w.into < 8 → ((valV kvs (hk w)).isSome = true ↔ ∃ v ∈ l, v.into = w.into ∧ v.k = w.k)) : LedAt (upd H d (.dT (putK kvs (hk w) (.bl true)))) d (l ++ [w]) := by
  refine ⟨_, upd_same, ?_, fun u hu => ?_⟩
  · have := put_len kvs (hk w) (.bl true)
    rw [List.length_append]
    simp
    omega
  · rw [valV_put]
    by_cases e : hk u = hk w
    · rw [if_pos e]
      have e' := (hk_inj hu hw).mp e
      exact ⟨fun _ => ⟨w, by simp, e'.1.symm, e'.2.symm⟩, fun _ => rfl⟩
    · rw [if_neg e, h u hu]
      constructor
      · rintro ⟨v, hv, q⟩
        exact ⟨v, List.mem_append_left _ hv, q⟩
      · rintro ⟨v, hv, q⟩
        refine (List.mem_append.mp hv).elim (fun m => ⟨v, m, q⟩) fun m => ?_
        rw [List.mem_singleton.mp m] at q
        exact absurd ((hk_inj hu hw).mpr ⟨q.1.symm, q.2.symm⟩) e
/-! ### the boxes' wires -/
theorem edge_app {l : List Wire} {w : Wire} {x y : Box} : Jm.Edge (l ++ [w]) x y ↔ Jm.Edge l x y ∨ w.outOf = some x ∧ w.inTo = some y := by
  unfold Jm.Edge
  constructor
  · rintro ⟨v, hv, q⟩
    refine (List.mem_append.mp hv).elim (fun m => .inl ⟨v, m, q⟩) fun m => .inr ?_
    rw [List.mem_singleton.mp m] at q
    exact q
  · rintro (⟨v, hv, q⟩ | q)
    · exact ⟨v, List.mem_append_left _ hv, q⟩
    · exact ⟨w, by simp, q⟩
theorem GraphAt.skip {H : Hp} {d : Addr} {l : List Wire} {w : Wire} (h : GraphAt H d l) (e : w.outOf = none ∨ w.inTo = none) : GraphAt H d (l ++ [w]) := by
  have hE : ∀ x y, Jm.Edge (l ++ [w]) x y ↔ Jm.Edge l x y := fun x y => by
    rw [edge_app]
    refine ⟨fun q => q.elim id fun q => ?_, .inl⟩
    exact e.elim (fun e => by rw [e] at q; cases q.1) fun e => by rw [e] at q; cases q.2
  obtain ⟨kvs, h1, h2, h3⟩ := h.ex
  refine ⟨kvs, h1, by rw [List.length_append]; simp; omega, fun x hx => ⟨fun hv y => by rw [hE]; exact (h3 x hx).1 hv y, fun v hv => ?_⟩⟩
  obtain ⟨lx, ts, ys, e1, e2, e3, e4, e5⟩ := (h3 x hx).2 v hv
  exact ⟨lx, ts, ys, e1, e2, e3, fun y => by rw [hE]; exact e4 y, by rw [List.length_append]; simp; omega⟩
theorem GraphAt.put {H : Hp} {d : Addr} {l : List Wire} {w : Wire} {a b : Box} {kvs : List (List Key × V)} {p t : Addr} {ts : List Addr} {ys : List Box} (ha : Bx a)
    (h1 : H d = some (.dT kvs)) (h2 : kvs.length ≤ l.length) (h3 : ∀ x : Box, Bx x →
    (valV kvs (bk x) = none → ∀ y, ¬ Jm.Edge l x y) ∧
    ∀ v, valV kvs (bk x) = some v → ∃ (lx : Addr) (ts : List Addr) (ys : List Box), v = .ref lx ∧ H lx = some (.lst (ts.map V.ref)) ∧ TupsAt H ts ys ∧ (∀ y, y ∈ ys ↔ Jm.Edge l x y) ∧ ys.length ≤ l.length)
    (hp : H p = some (.lst ((ts ++ [t]).map V.ref))) (ht : TupsAt H ts ys) (hy : ∀ y, y ∈ ys ↔ Jm.Edge l a y) (hyl : ys.length ≤ l.length) (htb : H t = some (.tup (bT b))) (ho : w.outOf = some a) (hi : w.inTo = some b) :
    GraphAt (upd H d (.dT (putK kvs (bk a) (.ref p)))) d (l ++ [w]) := by
  have nT : ∀ c xs, H c = some (.tup xs) → (upd H d (.dT (putK kvs (bk a) (.ref p)))) c = some (.tup xs) := fun c xs e => by rw [upd_ne (ne_of e h1 (by intro q; cases q))]; exact e
  have nL : ∀ c xs, H c = some (.lst xs) → (upd H d (.dT (putK kvs (bk a) (.ref p)))) c = some (.lst xs) := fun c xs e => by rw [upd_ne (ne_of e h1 (by intro q; cases q))]; exact e
  refine ⟨_, upd_same, ?_, fun x hx => ?_⟩
  · have := put_len kvs (bk a) (.ref p)
    rw [List.length_append]
    simp
    omega
  · rw [valV_put]
    by_cases e : bk x = bk a
    · rw [if_pos e]
      have e' := bk_inj hx ha e
      subst e'
      refine ⟨fun q => (by cases q), fun v hv => ?_⟩
      cases hv
      refine ⟨p, ts ++ [t], ys ++ [b], rfl, nL _ _ hp, (ht.mono nT).snoc (nT _ _ htb), fun y => ?_, by rw [List.length_append, List.length_append]; simp; exact hyl⟩
      rw [edge_app, ← hy y, ho, hi, List.mem_append, List.mem_singleton]
      exact ⟨fun q => q.elim .inl fun q => .inr ⟨rfl, by rw [q]⟩, fun q => q.elim .inl fun q => .inr (Option.some.inj q.2).symm⟩
    · rw [if_neg e]
      have hE : ∀ y, Jm.Edge (l ++ [w]) x y ↔ Jm.Edge l x y := fun y => by
        rw [edge_app]
        refine ⟨fun q => q.elim id fun q => ?_, .inl⟩
        rw [ho] at q
        exact absurd (by rw [Option.some.inj q.1]) e
      refine ⟨fun hv y => by rw [hE]; exact (h3 x hx).1 hv y, fun v hv => ?_⟩
      obtain ⟨lx, ts, ys, e1, e2, e3, e4, e5⟩ := (h3 x hx).2 v hv
      exact ⟨lx, ts, ys, e1, nL _ _ e2, e3.mono nT, fun y => by rw [hE]; exact e4 y, by rw [List.length_append]; simp; omega⟩
theorem GraphAt.other {H : Hp} {d e : Addr} {l : List Wire} {kv kv' : List (List Key × V)} (h : GraphAt H d l) (he : H e = some (.dT kv)) (n : d ≠ e) : GraphAt (upd H e (.dT kv')) d l := by
  obtain ⟨kvs, h1, h2, h3⟩ := h.ex
  have nT : ∀ c xs, H c = some (.tup xs) → (upd H e (.dT kv')) c = some (.tup xs) := fun c xs z => by rw [upd_ne (ne_of z he (by intro q; cases q))]; exact z
  refine ⟨kvs, by rw [upd_ne n]; exact h1, h2, fun x hx => ⟨(h3 x hx).1, fun v hv => ?_⟩⟩
  obtain ⟨lx, ts, ys, e1, e2, e3, e4⟩ := (h3 x hx).2 v hv
  exact ⟨lx, ts, ys, e1, by rw [upd_ne (ne_of e2 he (by intro q; cases q))]; exact e2, e3.mono nT, e4⟩
theorem LedAt.other {H : Hp} {d e : Addr} {l : List Wire} {o : HO} (h : LedAt H d l) (n : d ≠ e) : LedAt (upd H e o) d l := by
  obtain ⟨kvs, h1, h2, h3⟩ := h.ex
  exact ⟨kvs, by rw [upd_ne n]; exact h1, h2, h3⟩
def spFault : Sp := fun vs H Q _ => ∃ (p : Addr) (qs : List Addr) (ws : List Wire), vs = [.ref p] ∧ WiresAt H p qs ws ∧ ws.length ≤ 256 ∧ (∀ w ∈ ws, w.ok = true) ∧
  (∀ j x, Pu.faultIn_ ws = some (j, x) → ∀ (H' : Hp) (q : Addr), Same H H' → H' q = some (.lst [.int ((x : Int) + 1), .int (j : Nat), .int 0]) → Q (.ref q) H') ∧
  (Pu.faultIn_ ws = none → ∀ (H' : Hp) (q : Addr), Same H H' → H' q = some (.lst []) → Q (.ref q) H')
structure TxtF (mg : Str → Option Value) (fb fc : Addr) : Prop where
  sec : ∃ t, mg "SECOND_WIRE" = some (.int 3 t)
  rnd : ∃ t, mg "ROUND" = some (.int 4 t)
  en : mg "enumerate" = none
  bx : mg "box_of" = some (.ref fb)
  cm : mg "comes_to" = some (.ref fc)
section
variable {P : Program} {w : World} {K : PySem.W.Frag} {mg : Str → Option Value} {base : Heap}
theorem scWF : FnScope ["wires", "led_to", "sends_to", "place", "wire", "source", "target"] ["wires"] (defScope sFault) := ⟨rfl, rfl, rfl, by decide +kernel, rfl, by decide +kernel, by decide +kernel⟩
theorem ok_fault {f fb fc : Addr} {fd fdb fdc : FuncData} (F : Fun K "find_wire_fault" "find_wire_fault" sFault f fd) (TF : TxtF mg fb fc)
    (GB : FnOk P w K mg base CX0 1 fb fdb ["hub"] spBox) (bB : Binds K fdb ["hub"] []) (kB : PySem.W.keepIn K (.ref fb) = true)
    (GC : FnOk P w K mg base CX0 1 fc fdc ["sends_to", "start", "goal"] spCome) (bC : Binds K fdc ["sends_to", "start", "goal"] []) (kC : PySem.W.keepIn K (.ref fc) = true) :
    FnOk P w K mg base CX0 2 f fd ["wires"] spFault := by
  refine F.ok scWF (fun vs H Q E h => ?_) (fun cdv A outer s H vs Q E hr h => ?_)
  · obtain ⟨p, qs, ws, rfl, _⟩ := h
    rfl
  · obtain ⟨p, qs, ws, rfl, hW, hln, hok, k1, k2⟩ := h
    have hu := hu_of hr
    obtain ⟨t1, e1⟩ := TF.sec
    obtain ⟨t2, e2⟩ := TF.rnd
    refine ⟨_, pss_cons (ps_set (i := 1) scWF.nd rfl (Or.inl rfl) pe_dnewT) (pss_cons (ps_set (i := 2) scWF.nd rfl (Or.inl rfl) pe_dnewT)
      (pss_cons (ps_for PassesOwn.never rfl (pi_enum (by rfl) TF.en (pa_cons (pv 0) pa_nil)) (pg_tup rfl (pgs_cons (pg_name (i := 3) scWF.nd rfl (Or.inl rfl)) (pgs_cons (pg_name (i := 4) scWF.nd rfl (Or.inl rfl)) pgs_nil)))
        (pss_cons (ps_if (pt_cmp (pc_din hu (pe_ix ix_tup (pv 4) pe_int (fun _ _ => rfl)) (pv 1)) (by with_unfolding_all rfl)) (pss_one (ps_ret (pe_lst (pa_cons (pe_glob (v := .int 3) (by rfl) e1 ⟨t1, rfl⟩) (pa_cons (pv 3) (pa_cons pe_int pa_nil)))))) pss_nil)
        (pss_cons (ps_dput hu (pv 1) (pe_ix ix_tup (pv 4) pe_int (fun _ _ => rfl)) pe_bl rfl)
        (pss_cons (ps_set (i := 5) scWF.nd rfl (Or.inl rfl) (pe_call GB hr (by rfl) TF.bx kB bB .nil pass0 (pa_cons (pe_ix ix_tup (pv 4) pe_int (fun _ _ => rfl)) pa_nil)))
        (pss_cons (ps_set (i := 6) scWF.nd rfl (Or.inl rfl) (pe_call GB hr (by rfl) TF.bx kB bB .nil pass0 (pa_cons (pe_ix ix_tup (pv 4) pe_int (fun _ _ => rfl)) pa_nil)))
        (pss_cons (ps_if (PW.pt (pw_or (pt_cmp (pc_isN (pv 5))) (pw_or1 (pt_cmp (pc_isN (pv 6)))))) (pss_one ps_continue) pss_nil)
        (pss_cons (ps_if (pt_val (pe_call GC hr (by rfl) TF.cm kC bC .nil pass0 (pa_cons (pv 2) (pa_cons (pv 6) (pa_cons (pv 5) pa_nil))))) (pss_one (ps_ret (pe_lst (pa_cons (pe_glob (v := .int 4) (by rfl) e2 ⟨t2, rfl⟩) (pa_cons (pv 3) (pa_cons pe_int pa_nil)))))) pss_nil)
        (pss_one (ps_dput hu (pv 2) (pv 5) (pe_op op_cat (pe_dget2 hu (pv 2) (pv 5) (pe_lst pa_nil) ⟨rfl, rfl, rfl, rfl⟩) (pe_lst (pa_cons (pv 6) pa_nil))) rfl)))))))))
      (pss_one (ps_ret (pe_lst pa_nil))))), ?_⟩
    refine fun ld hld sd hsd => ?_
    have nsl : sd ≠ ld := fun e => by rw [e, upd_same] at hsd; cases hsd
    have hsdH : H sd = none := by rw [upd_ne nsl] at hsd; exact hsd
    have u0 : Same H (upd (upd H ld (.dT [])) sd (.dT [])) := fun d o e => by rw [upd_ne (ne_of_none e hsdH), upd_ne (ne_of_none e hld)]; exact e
    have frL : ∀ c o, H c = some o → c ≠ ld := fun c o e => ne_of_none e hld
    have frS : ∀ c o, H c = some o → c ≠ sd := fun c o e => ne_of_none e hsdH
    refine ⟨_, rfl, p, _, rfl, SqL.of (u0 _ _ hW.lst), for_enum (xs := qs.map V.ref) (fun i σ H' => ∃ v3 v4 v5 v6 : Option V, σ = [some (.ref p), some (.ref ld), some (.ref sd), v3, v4, v5, v6] ∧ Same H H' ∧ LedAt H' ld (ws.take i) ∧ GraphAt H' sd (ws.take i) ∧ ∀ j, j < i → Pu.wrongAt ws j = none)
      ⟨none, none, none, none, rfl, u0, ⟨[], by rw [upd_ne (Ne.symm nsl), upd_same], Nat.zero_le _, fun w _ => ⟨fun q => (by cases q), fun ⟨v, hv, _⟩ => (by cases hv)⟩⟩, ⟨[], upd_same, Nat.zero_le _, fun x _ => ⟨fun _ y ⟨v, hv, _⟩ => (by cases hv), fun v hv => (by cases hv)⟩⟩, fun j hj => absurd hj (Nat.not_lt_zero j)⟩ (fun i σ H' ⟨_, _, _, _, _, s1, _⟩ => SqL.of (s1 _ _ hW.lst)) ?_ ?_⟩
    · rintro i x T' σ H' hx ⟨v3, v4, v5, v6, rfl, s1, hLed, hGr, hall⟩ hTn
      obtain ⟨q, hq, rfl⟩ := ref_get hx
      have hi : i < ws.length := by rw [← hW.len]; exact (List.getElem?_eq_some_iff.mp hq).1
      obtain ⟨w, hw⟩ : ∃ w, ws[i]? = some w := ⟨_, List.getElem?_eq_getElem hi⟩
      obtain ⟨q1, q2, w1, w2, w3⟩ := hW.at_ i q w hq hw
      have hwok := hok w (List.mem_of_getElem? hw)
      have hlt := ok_lt hwok
      have etk : ws.take (i + 1) = ws.take i ++ [w] := by rw [List.take_add_one, hw]; rfl
      have htl : (ws.take i).length ≤ 256 := by rw [List.length_take]; omega
      have u1 : Same H' (upd H' T' (.tup [.int (i : Nat), .ref q])) := fun d o e => by rw [upd_ne (ne_of_none e hTn)]; exact e
      have s2 := s1.trans u1
      have hLed2 := hLed.same u1
      have hGr2 := hGr.same u1
      refine ⟨T', _, rfl, SqT.of upd_same, rfl, _, _, rfl, _, _, rfl, rfl, ?_⟩
      generalize upd H' T' (.tup [.int (i : Nat), .ref q]) = H2 at s2 hLed2 hGr2
      obtain ⟨kvl, l1, l2, l3⟩ := hLed2.ex
      have w1' := s2 _ _ w1
      have w2' := s2 _ _ w2
      have w3' := s2 _ _ w3
      have hwr := Jm.wrong_at hw
      refine ⟨_, rfl, q, _, _, _, rfl, rfl, SqT.of w1', at_of (j := 1) rfl rfl, _, rfl, ld, _, rfl, DGet.t (k := hk w) l1 w3', _, rfl, ite2 (fun hsec => ?_) fun hsec => ?_⟩
      · have hany : ((ws.take i).any fun (v : Wire) => v.into == w.into && v.k == w.k) = true := by
          obtain ⟨v, hv, z1, z2⟩ := (l3 w hlt.2).mp hsec
          exact List.any_eq_true.mpr ⟨v, hv, by rw [z1, z2]; simp⟩
        rw [if_pos hany] at hwr
        refine ⟨_, rfl, (by show 3 ≤ sizeLine; decide), fun r hr' => ?_⟩
        have u2 : Same H2 (upd H2 r (.lst [.int 3, .int (i : Nat), .int 0])) := fun d o e => by rw [upd_ne (ne_of_none e hr')]; exact e
        refine k1 i 2 (Jm.faultIn_some hi hwr hall) _ r (s2.trans u2) ?_
        rw [upd_same]
        rfl
      · have hany : ¬ ((ws.take i).any fun (v : Wire) => v.into == w.into && v.k == w.k) = true := fun z => by
          obtain ⟨v, hv, z1⟩ := List.any_eq_true.mp z
          rw [Bool.and_eq_true, beq_iff_eq, beq_iff_eq] at z1
          exact hsec ((l3 w hlt.2).mpr ⟨v, hv, z1⟩)
        rw [if_neg hany] at hwr
        have sml : ∀ n, n ≤ 256 + 1 → n < sizeLine := fun n hn => Nat.lt_of_le_of_lt hn (by decide)
        refine ⟨_, rfl, _, rfl, q, _, _, _, rfl, rfl, SqT.of w1', at_of (j := 1) rfl rfl, ld, _, rfl, DPut.t (k := hk w) l1 w3' (sml _ (by omega)), ?_⟩
        have s3 : Same H (upd H2 ld (.dT (putK kvl (hk w) (.bl true)))) := fun d o e => by rw [upd_ne (frL d o e)]; exact s2 _ _ e
        have hLed3 : LedAt (upd H2 ld (.dT (putK kvl (hk w) (.bl true)))) ld (ws.take (i + 1)) := by rw [etk]; exact LedAt.put hlt.2 l2 l3
        have hGr3 : GraphAt (upd H2 ld (.dT (putK kvl (hk w) (.bl true)))) sd (ws.take i) := hGr2.other l1 nsl
        generalize upd H2 ld (.dT (putK kvl (hk w) (.bl true))) = H3 at s3 hLed3 hGr3
        have allN : Pu.wrongAt ws i = none → ∀ j, j < i + 1 → Pu.wrongAt ws j = none := fun z j hj => by
          by_cases e : j = i
          · rw [e]; exact z
          · exact hall j (by omega)
        have skip : (w.outOf = none ∨ w.inTo = none) → Pu.wrongAt ws i = none := fun z => by
          rw [hwr, if_neg]
          rw [Jm.closes_iff htl]
          rintro ⟨a, b, z1, z2, _⟩
          exact z.elim (fun z => by rw [z] at z1; cases z1) fun z => by rw [z] at z2; cases z2
        obtain ⟨rest, erest⟩ := hubS_two w
        have ol := out_look w hlt.1
        have il := in_look w hlt.2
        refine ⟨_, rfl, q, _, _, _, rfl, rfl, SqT.of (s3 _ _ w1), at_of (j := 0) rfl rfl, ?_⟩
        refine ⟨q1, _, _, _, rfl, (by rw [← erest]; exact s3 _ _ w2), fun hno => ?_, fun kd hkd H4 qa u4 hqa => ?_⟩
        · have hon : w.outOf = none := by
            rw [ol.1] at hno
            exact Option.map_eq_none_iff.mp hno
          refine ⟨_, rfl, q, _, _, _, rfl, rfl, SqT.of (s3 _ _ w1), at_of (j := 1) rfl rfl, ?_⟩
          have fin : ∀ (H5 : Hp) (v6 : Option V), Same H3 H5 → ∃ v3 v4 v5 v6' : Option V, [some (V.ref p), some (.ref ld), some (.ref sd), some (.int (i : Nat)), some (.ref q), some .non, v6] = [some (V.ref p), some (.ref ld), some (.ref sd), v3, v4, v5, v6'] ∧ Same H H5 ∧ LedAt H5 ld (ws.take (i + 1)) ∧ GraphAt H5 sd (ws.take (i + 1)) ∧ ∀ j, j < i + 1 → Pu.wrongAt ws j = none :=
            fun H5 v6 u5 => ⟨_, _, _, _, rfl, s3.trans u5, hLed3.same u5, by rw [etk]; exact (hGr3.same u5).skip (.inl hon), allN (skip (.inl hon))⟩
          refine ⟨q2, _, _, _, rfl, s3 _ _ w3, fun hno2 => ?_, fun kd2 hkd2 H5 qb u5 hqb => ?_⟩
          · exact ⟨_, rfl, _, rfl, iteT (iteT (fin _ _ (Same.refl _)))⟩
          · exact ⟨_, rfl, _, rfl, iteT (iteT (fin _ _ u5))⟩
        · obtain ⟨a, ha⟩ : ∃ a, w.outOf = some a := by
            rw [ol.1] at hkd
            obtain ⟨a, z, _⟩ := Option.map_eq_some_iff.mp hkd
            exact ⟨a, z⟩
          have hqa' : H4 qa = some (.tup (bT a)) := by
            rw [ol.1, ha] at hkd
            have z := Option.some.inj hkd
            rw [hqa, ← z]
            unfold bT
            rw [ol.2 a ha]
          have s4 := s3.trans u4
          have hLed4 := hLed3.same u4
          have hGr4 := hGr3.same u4
          refine ⟨_, rfl, q, _, _, _, rfl, rfl, SqT.of (s4 _ _ w1), at_of (j := 1) rfl rfl, ?_⟩
          refine ⟨q2, _, _, _, rfl, s4 _ _ w3, fun hno2 => ?_, fun kd2 hkd2 H5 qb u5 hqb => ?_⟩
          · have hin : w.inTo = none := by
              rw [il.1] at hno2
              exact Option.map_eq_none_iff.mp hno2
            refine ⟨_, rfl, _, rfl, iteF ⟨_, rfl, _, rfl, iteT ?_⟩⟩
            exact ⟨_, _, _, _, rfl, s4, hLed4, by rw [etk]; exact hGr4.skip (.inr hin), allN (skip (.inr hin))⟩
          · obtain ⟨b, hb⟩ : ∃ b, w.inTo = some b := by
              rw [il.1] at hkd2
              obtain ⟨b, z, _⟩ := Option.map_eq_some_iff.mp hkd2
              exact ⟨b, z⟩
            have hqb' : H5 qb = some (.tup (bT b)) := by
              rw [il.1, hb] at hkd2
              have z := Option.some.inj hkd2
              rw [hqb, ← z]
              unfold bT
              rw [il.2 b hb]
            have s5 := s4.trans u5
            have hLed5 := hLed4.same u5
            have hGr5 := hGr4.same u5
            have hBa : Bx a := out_bx ha
            have hBb : Bx b := in_bx hb
            refine ⟨_, rfl, _, rfl, iteF ⟨_, rfl, _, rfl, iteF ?_⟩⟩
            refine ⟨_, rfl, _, rfl, _, rfl, sd, qb, qa, ws.take i, b, a, rfl, hGr5, htl, hBb, hBa, hqb', u5 _ _ hqa', fun r H6 hr6 u6 => ?_⟩
            have s6 := s5.trans u6
            have hcl : Pu.closes (ws.take i) w = true ↔ r = true := by
              rw [Jm.closes_iff htl, hr6]
              constructor
              · rintro ⟨a', b', z1, z2, z3⟩
                rw [ha] at z1
                rw [hb] at z2
                cases z1
                cases z2
                exact z3
              · exact fun z => ⟨a, b, ha, hb, z⟩
            refine ⟨_, rfl, ite2 (fun hrt => ?_) fun hrt => ?_⟩
            · rw [if_pos (hcl.mpr hrt)] at hwr
              refine ⟨_, rfl, (by show 3 ≤ sizeLine; decide), fun r hr' => ?_⟩
              have u7 : Same H6 (upd H6 r (.lst [.int 4, .int (i : Nat), .int 0])) := fun d o e => by rw [upd_ne (ne_of_none e hr')]; exact e
              refine k1 i 3 (Jm.faultIn_some hi hwr hall) _ r (s6.trans u7) ?_
              rw [upd_same]
              rfl
            · rw [if_neg (fun z => hrt (hcl.mp z))] at hwr
              have hLed6 := hLed5.same u6
              have hGr6 := hGr5.same u6
              obtain ⟨kvs, g1, g2, g3⟩ := hGr6.ex
              have hqa6 := u6 _ _ (u5 _ _ hqa')
              have hqb6 := u6 _ _ hqb'
              refine ⟨_, rfl, sd, rfl, .inr ⟨_, .inl g1⟩, _, rfl, (by show 0 ≤ sizeLine; decide), fun e he => ?_⟩
              have u7 : Same H6 (upd H6 e (.lst [])) := fun c o z => by rw [upd_ne (ne_of_none z he)]; exact z
              refine ⟨valV kvs (bk a), DGet.t (k := bk a) (u7 _ _ g1) (u7 _ _ hqa6), ?_⟩
              obtain ⟨lx, ts, ys, ev, hlx, hty, hed, hyl⟩ : ∃ (lx : Addr) (ts : List Addr) (ys : List Box), (valV kvs (bk a)).getD (.ref e) = .ref lx ∧ (upd H6 e (.lst [])) lx = some (.lst (ts.map V.ref)) ∧ TupsAt (upd H6 e (.lst [])) ts ys ∧ (∀ y, y ∈ ys ↔ Jm.Edge (ws.take i) a y) ∧ ys.length ≤ (ws.take i).length := by
                cases z : valV kvs (bk a) with
                | none => exact ⟨e, [], [], rfl, upd_same, ⟨rfl, fun i t y h1 => by simp at h1⟩, fun y => ⟨fun m => (by cases m), fun m => absurd m ((g3 a hBa).1 z y)⟩, Nat.zero_le _⟩
                | some v =>
                  obtain ⟨lx, ts, ys, rfl, h1, h2, h3, h4⟩ := (g3 a hBa).2 v z
                  exact ⟨lx, ts, ys, rfl, u7 _ _ h1, h2.mono fun c xs z => u7 _ _ z, h3, h4⟩
              rw [ev]
              generalize upd H6 e (.lst []) = H7 at u7 hlx hty
              refine ⟨_, rfl, (by show 1 ≤ sizeLine; decide), fun m hm => ?_⟩
              have u8 : Same H7 (upd H7 m (.lst [.ref qb])) := fun c o z => by rw [upd_ne (ne_of_none z hm)]; exact z
              have hm8 : (upd H7 m (.lst [.ref qb])) m = some (.lst [.ref qb]) := upd_same
              refine ⟨lx, m, _, _, rfl, rfl, u8 _ _ hlx, hm8, (by
                rw [List.length_map, hty.len]
                exact Nat.le_of_lt (sml _ (by show ys.length + 1 ≤ 256 + 1; omega))), fun pn hpn => ?_⟩
              generalize upd H7 m (.lst [.ref qb]) = H8 at u8 hm8 hpn
              have u9 : Same H8 (upd H8 pn (.lst (ts.map V.ref ++ [.ref qb]))) := fun c o z => by rw [upd_ne (ne_of_none z hpn)]; exact z
              have hp9 : (upd H8 pn (.lst (ts.map V.ref ++ [.ref qb]))) pn = some (.lst ((ts ++ [qb]).map V.ref)) := by rw [upd_same, List.map_append]; rfl
              generalize upd H8 pn (.lst (ts.map V.ref ++ [.ref qb])) = H9 at u9 hp9
              have u69 : Same H6 H9 := (u7.trans u8).trans u9
              refine ⟨_, rfl, _, rfl, sd, _, rfl, DPut.t (k := bk a) (u69 _ _ g1) (u69 _ _ hqa6) (sml _ (by omega)), ?_⟩
              obtain ⟨kvs', g1', g2', g3'⟩ := (hGr6.same u69).ex
              have ekk : kvs' = kvs := by
                have z := g1'.symm.trans (u69 _ _ g1)
                injection z with z
                injection z
              subst ekk
              refine ⟨_, _, _, _, rfl, fun d o z => ?_, (hLed6.same u69).other (Ne.symm nsl), ?_, allN hwr⟩
              · rw [upd_ne (frS d o z)]
                exact u69 _ _ (s6 _ _ z)
              · rw [etk]
                exact GraphAt.put hBa g1' g2' g3' hp9 (hty.mono fun c xs z => u9 _ _ (u8 _ _ z)) hed hyl (u69 _ _ hqb6) ha hb
    · rintro σ H' ⟨v3, v4, v5, v6, rfl, s1, hLed, hGr, hall⟩
      rw [List.length_map, hW.len] at hall
      refine ⟨(by show 0 ≤ sizeLine; decide), fun q hq => ?_⟩
      have u5 : Same H' (upd H' q (.lst [])) := fun d o e => by rw [upd_ne (ne_of_none e hq)]; exact e
      exact k2 (Jm.faultIn_none hall) _ q (s1.trans u5) upd_same
end
end Hb
end

section
set_option Elab.async false
set_option linter.all false
set_option maxRecDepth 100000
set_option maxHeartbeats 4000000
namespace Jm
open Pu
theorem pieces_len : ∀ (b : Bytes), ∀ p ∈ pieces b, p.length ≤ b.length
  | [], p, h => by cases h
  | c :: r, p, h => by
    rw [pieces_cons] at h
    by_cases e : c = 10
    · rw [if_pos e] at h
      rcases List.mem_cons.mp h with h | h
      · rw [h]; simp
      · have := pieces_len r p h
        simp; omega
    · rw [if_neg e] at h
      have ih := pieces_len r
      cases q : pieces r with
      | nil =>
        rw [q] at h
        rw [List.mem_singleton.mp h]
        simp
      | cons a l =>
        rw [q] at h ih
        rcases List.mem_cons.mp h with h | h
        · rw [h]
          have := ih a (by simp)
          simp; exact this
        · have := ih p (List.mem_cons_of_mem _ h)
          simp; omega
def judgeB (b : Bytes) : List Int := if refusal b = [] then [((pieces b).length : Int)] else refusal b
end Jm
namespace Hb
open PySem PySem.Spec PyProof.Rows L2
open Pu (Box Wire)
abbrev sRef : Stmt := top 20
def iL (l : List Int) : List V := l.map V.int
theorem SameT.sqL {K : PySem.W.Frag} {H H' : Hp} {a : Addr} {xs : List V} (e : SameT H H') (h : SqL K H a xs) : SqL K H' a xs := by
  rcases h with (h | ⟨o, h⟩) | h
  · exact .inl (.inl (e _ _ h trivial))
  · exact .inl (.inr ⟨o, e _ _ h trivial⟩)
  · exact .inr h
def spRef (K : PySem.W.Frag) (t : Tb) : Sp := fun vs H Q _ => ∃ (a : Addr) (b : Bytes), vs = [.ref a] ∧ SqL K H a (bL b) ∧ b.length ≤ 65536 ∧ Tab t H ∧ ∀ (H' : Hp) (q : Addr), SameT H H' → Tab t H' → H' q = some (.lst (iL (Jm.refusal b))) → Q (.ref q) H'
def spJudge (K : PySem.W.Frag) (t : Tb) : Sp := fun vs H Q _ => ∃ (a : Addr) (b : Bytes), vs = [.ref a] ∧ SqL K H a (bL b) ∧ b.length ≤ 65536 ∧ Tab t H ∧ ∀ (H' : Hp) (q : Addr), SameT H H' → Tab t H' → H' q = some (.lst (iL (Jm.judgeB b))) → Q (.ref q) H'
structure TxtR (mg : Str → Option Value) (fp fl fr ff : Addr) : Prop where
  long : ∃ t, mg "LONGEST_TEXT" = some (.int 16384 t)
  too : ∃ t, mg "TOO_LONG" = some (.int (-1) t)
  fau : ∃ t, mg "FAULTY" = some (.int (-6) t)
  pl : mg "part_lines" = some (.ref fp)
  fl : mg "find_line_fault" = some (.ref fl)
  rw : mg "read_wires" = some (.ref fr)
  fw : mg "find_wire_fault" = some (.ref ff)
section
variable {P : Program} {w : World} {K : PySem.W.Frag} {mg : Str → Option Value} {base : Heap}
theorem scRf : FnScope ["text", "lines", "fault"] ["text"] (defScope sRef) := ⟨rfl, rfl, rfl, by decide +kernel, rfl, by decide +kernel, by decide +kernel⟩
theorem ok_ref {f fp fl fr ff C : Addr} {fd fdp fdl fdr fdf : FuncData} {tb : Tb} (F : Fun K "find_refusal" "find_refusal" sRef f fd) (T : Txt K mg C) (TR : TxtR mg fp fl fr ff)
    (GP : FnOk P w K mg base CX0 1 fp fdp ["text"] (spPart K)) (bP : Binds K fdp ["text"] []) (kP : PySem.W.keepIn K (.ref fp) = true)
    (GL : FnOk P w K mg base CX0 8 fl fdl ["lines"] (spLine tb)) (bL' : Binds K fdl ["lines"] []) (kL : PySem.W.keepIn K (.ref fl) = true)
    (GR : FnOk P w K mg base CX0 8 fr fdr ["lines"] (spRead tb)) (bR : Binds K fdr ["lines"] []) (kR : PySem.W.keepIn K (.ref fr) = true)
    (GF : FnOk P w K mg base CX0 2 ff fdf ["wires"] spFault) (bF : Binds K fdf ["wires"] []) (kF : PySem.W.keepIn K (.ref ff) = true) :
    FnOk P w K mg base CX0 9 f fd ["text"] (spRef K tb) := by
  refine F.ok scRf (fun vs H Q E h => ?_) (fun cdv A outer s H vs Q E hr h => ?_)
  · obtain ⟨a, b, rfl, _⟩ := h
    rfl
  · obtain ⟨a, b, rfl, hS, hlen, hT, k⟩ := h
    obtain ⟨t1, e1⟩ := TR.long
    obtain ⟨t2, e2⟩ := TR.too
    obtain ⟨t3, e3⟩ := TR.fau
    have hr1 : Room 1 (A.deeper (envOfC "find_refusal" (defScope sRef) s.heap.objs.size f cdv)) := hr.mono (by decide)
    have hr2 : Room 2 (A.deeper (envOfC "find_refusal" (defScope sRef) s.heap.objs.size f cdv)) := hr.mono (by decide)
    refine ⟨_, pss_cons (ps_if (pt_cmpR op_gt (pe_callB call_len_seq (by rfl) T.len PySem.boot_len (pa_cons (pv 0) pa_nil)) (pe_glob (v := .int 16384) (by rfl) e1 ⟨t1, rfl⟩) (nomark _)) (pss_one (ps_ret (pe_lst (pa_cons (pe_glob (v := .int (-1)) (by rfl) e2 ⟨t2, rfl⟩) pa_nil)))) pss_nil)
      (pss_cons (ps_set (i := 1) scRf.nd rfl (Or.inl rfl) (pe_call GP hr1 (by rfl) TR.pl kP bP .nil pass0 (pa_cons (pv 0) pa_nil)))
      (pss_cons (ps_set (i := 2) scRf.nd rfl (Or.inl rfl) (pe_call GL hr (by rfl) TR.fl kL bL' .nil pass0 (pa_cons (pv 1) pa_nil)))
      (pss_cons (ps_if (pt_not (pt_truth (pv 2) (fun _ => rfl))) (pss_one (ps_set (i := 2) scRf.nd rfl (Or.inl rfl) (pe_call GF hr2 (by rfl) TR.fw kF bF .nil pass0 (pa_cons (pe_call GR hr (by rfl) TR.rw kR bR .nil pass0 (pa_cons (pv 1) pa_nil)) pa_nil)))) pss_nil)
      (pss_cons (ps_if (pt_truth (pv 2) (fun _ => rfl)) (pss_one (ps_ret (pe_op op_cat (pe_lst (pa_cons (pe_glob (v := .int (-6)) (by rfl) e3 ⟨t3, rfl⟩) pa_nil)) (pv 2)))) pss_nil)
      (pss_one (ps_ret (pe_lst pa_nil))))))), ?_⟩
    refine ⟨_, rfl, a, _, rfl, .inl hS, _, _, rfl, rfl, _, rfl, ite2 (fun hl => ?_) fun hl => ?_⟩
    · have hl' : 16384 < b.length := by
        have := of_decide_eq_true hl
        rw [bL_len] at this
        omega
      refine ⟨(by show 1 ≤ sizeLine; decide), fun q hq => ?_⟩
      have u1 : Same H (upd H q (.lst [.int (-1)])) := fun d o e => by rw [upd_ne (ne_of_none e hq)]; exact e
      exact k _ q u1.t (u1.tab hT) (by rw [upd_same, Jm.refusal_long hl']; rfl)
    · have hl' : ¬ 16384 < b.length := fun z => hl (decide_eq_true (by rw [bL_len]; omega))
      refine ⟨_, rfl, a, b, rfl, hS, hlen, fun H1 p as u1 hL => ?_⟩
      have hT1 := u1.tab hT
      have hsz : ∀ l ∈ Pu.pieces b, l.length ≤ 65536 := fun l hl => Nat.le_trans (Jm.pieces_len b l hl) hlen
      refine ⟨_, rfl, p, as, Pu.pieces b, rfl, hL, hT1, hsz, fun i l hi hb hf H2 q s2 hT2 hq => ?_, fun hall H2 q s2 hT2 hq => ?_⟩
      · have hfa := Jm.fault_at hi hb hf
        have hre := Jm.panel_line hl' hfa
        refine ⟨_, rfl, _, .inl ⟨_, SqL.of hq, rfl⟩, iteF ?_⟩
        refine ⟨_, rfl, _, .inl ⟨_, SqL.of hq, rfl⟩, iteT ?_⟩
        refine ⟨(by show 1 ≤ sizeLine; decide), fun m hm => ⟨_, rfl, m, q, _, _, rfl, rfl, upd_same, (by rw [upd_ne (ne_of_none hq hm)]; exact hq), (by show 1 + 3 ≤ sizeLine; decide), fun r hr' => ?_⟩⟩
        have u3 : Same H2 (upd (upd H2 m (.lst [.int (-6)])) r (.lst ([V.int (-6)] ++ [.int (if 256 ≤ i then 2 else 1), .int (i : Nat), .int ((if 256 ≤ i then 0 else (Jm.full l).1 : Nat) : Int)]))) := fun d o e => by
          have z : (upd H2 m (.lst [.int (-6)])) d = some o := by rw [upd_ne (ne_of_none e hm)]; exact e
          rw [upd_ne (ne_of_none z hr')]
          exact z
        refine k _ r ((u1.t.trans s2).trans u3.t) (u3.tab hT2) ?_
        rw [upd_same, hre]
        rfl
      · refine ⟨_, rfl, _, .inl ⟨_, SqL.of hq, rfl⟩, iteT ?_⟩
        have hL2 := hL.same s2
        have hfull : ∀ l ∈ Pu.pieces b, (Jm.full l).2.2 = true := fun l hl => by
          obtain ⟨j, hj⟩ := List.mem_iff_getElem?.mp hl
          exact (hall j l hj).2
        have hcnt : (Pu.pieces b).length ≤ 256 := by
          have := Jm.wires_len hall
          unfold Jm.wiresOf at this
          rw [List.length_map] at this
          exact this
        refine ⟨_, rfl, p, as, Pu.pieces b, rfl, hL2, hT2, hsz, hcnt, hfull, fun H3 wq qs s3 hT3 hW => ?_⟩
        refine ⟨wq, qs, Jm.wiresOf b, rfl, hW, Jm.wires_len hall, Jm.wires_ok hall, fun j x hfi H4 r u4 hr4 => ?_, fun hfi H4 r u4 hr4 => ?_⟩
        · have hre := Jm.refusal_wire hl' hall hfi
          refine ⟨_, rfl, _, .inl ⟨_, SqL.of hr4, rfl⟩, iteT ?_⟩
          refine ⟨(by show 1 ≤ sizeLine; decide), fun m hm => ⟨_, rfl, m, r, _, _, rfl, rfl, upd_same, (by rw [upd_ne (ne_of_none hr4 hm)]; exact hr4), (by show 1 + 3 ≤ sizeLine; decide), fun z hz => ?_⟩⟩
          have u5 : Same H4 (upd (upd H4 m (.lst [.int (-6)])) z (.lst ([V.int (-6)] ++ [.int ((x : Int) + 1), .int (j : Nat), .int 0]))) := fun d o e => by
            have y : (upd H4 m (.lst [.int (-6)])) d = some o := by rw [upd_ne (ne_of_none e hm)]; exact e
            rw [upd_ne (ne_of_none y hz)]
            exact y
          refine k _ z ((((u1.t.trans s2).trans s3).trans u4.t).trans u5.t) (u5.tab (u4.tab hT3)) ?_
          rw [upd_same, hre]
          rfl
        · have hre := (Jm.refusal_none hl' hall hfi).1
          refine ⟨_, rfl, _, .inl ⟨_, SqL.of hr4, rfl⟩, iteF ?_⟩
          refine ⟨(by show 0 ≤ sizeLine; decide), fun z hz => ?_⟩
          have u5 : Same H4 (upd H4 z (.lst [])) := fun d o e => by rw [upd_ne (ne_of_none e hz)]; exact e
          refine k _ z ((((u1.t.trans s2).trans s3).trans u4.t).trans u5.t) (u5.tab (u4.tab hT3)) ?_
          rw [upd_same, hre]
          rfl
end
end Hb
end

section
set_option Elab.async false
set_option linter.all false
set_option maxRecDepth 100000
set_option maxHeartbeats 4000000
namespace Hb
open PySem PySem.Spec PyProof.Rows L2
open Pu (Box Wire)
open Jm (Hub)
abbrev sBehind : Stmt := top bh
abbrev sSend : Stmt := top (bh + 1)
/-! ### hubs that take -/
def hT (h : Hub) : List V := [.str (tW h.1), .int (h.2 : Nat)]
def hkK (h : Hub) : List Key := [Sum.inr (tW h.1), Sum.inl (h.2 : Int)]
theorem hkK_V (h : Hub) : (hkK h).map kV = hT h := rfl
theorem hkK_inj {a b : Hub} (ha : a.1 < 8) (hb : b.1 < 8) (h : hkK a = hkK b) : a = b := by
  obtain ⟨a1, a2⟩ := a
  obtain ⟨b1, b2⟩ := b
  unfold hkK at h
  have h1 := Sum.inr.inj (List.cons.inj h).1
  have h2 : (a2 : Int) = b2 := Sum.inl.inj (List.cons.inj (List.cons.inj h).2).1
  have h3 := tW_inj a1 ha b1 hb h1
  have h4 : a2 = b2 := by omega
  rw [h3, h4]
/-- tuples, each of its datum -/
structure Each {α : Type} (f : α → List V) (H : Hp) (ts : List Addr) (ys : List α) : Prop where
  len : ts.length = ys.length
  at_ : ∀ (i : Nat) (t : Addr) (y : α), ts[i]? = some t → ys[i]? = some y → H t = some (.tup (f y))
theorem Each.nil {α : Type} {f : α → List V} {H : Hp} : Each f H [] [] := ⟨rfl, fun i t y h1 => by simp at h1⟩
theorem Each.mono {α : Type} {f : α → List V} {H H' : Hp} {ts : List Addr} {ys : List α} (h : Each f H ts ys) (k : ∀ t xs, H t = some (.tup xs) → H' t = some (.tup xs)) : Each f H' ts ys := ⟨h.len, fun i t y h1 h2 => k _ _ (h.at_ i t y h1 h2)⟩
theorem Each.app {α : Type} {f : α → List V} {H : Hp} {ts us : List Addr} {ys zs : List α} (h : Each f H ts ys) (k : Each f H us zs) : Each f H (ts ++ us) (ys ++ zs) := by
  refine ⟨by rw [List.length_append, List.length_append, h.len, k.len], fun i a b h1 h2 => ?_⟩
  by_cases hi : i < ts.length
  · rw [List.getElem?_append_left hi] at h1
    rw [List.getElem?_append_left (by rw [← h.len]; exact hi)] at h2
    exact h.at_ i a b h1 h2
  · rw [List.getElem?_append_right (by omega)] at h1
    rw [List.getElem?_append_right (by rw [← h.len]; omega), ← h.len] at h2
    exact k.at_ _ a b h1 h2
theorem Each.one {α : Type} {f : α → List V} {H : Hp} {t : Addr} {y : α} (h : H t = some (.tup (f y))) : Each f H [t] [y] := by
  refine ⟨rfl, fun i a b h1 h2 => ?_⟩
  cases i with
  | zero =>
    have e1 : t = a := by simpa using h1
    have e2 : y = b := by simpa using h2
    rw [← e1, ← e2]; exact h
  | succ i => simp at h1
theorem Each.snoc {α : Type} {f : α → List V} {H : Hp} {ts : List Addr} {ys : List α} {t : Addr} {y : α} (h : Each f H ts ys) (ht : H t = some (.tup (f y))) : Each f H (ts ++ [t]) (ys ++ [y]) := h.app (.one ht)
theorem Each.last {α : Type} {f : α → List V} {H : Hp} {ts : List Addr} {ys : List α} {t : Addr} {y : α} (h : Each f H (ts ++ [t]) (ys ++ [y])) : Each f H ts ys ∧ H t = some (.tup (f y)) := by
  have hl : ts.length = ys.length := by have := h.len; simpa using this
  refine ⟨⟨hl, fun i a b h1 h2 => h.at_ i a b (by rw [List.getElem?_append_left (List.getElem?_eq_some_iff.mp h1).1]; exact h1) (by rw [List.getElem?_append_left (List.getElem?_eq_some_iff.mp h2).1]; exact h2)⟩, ?_⟩
  exact h.at_ ts.length t y (by simp) (by rw [hl]; simp)
/-! ### hubs_behind -/
def spBehind : Sp := fun vs H Q _ => ∃ (h : Addr) (w : Wire), vs = [.ref h] ∧ H h = some (.tup (hubSV w)) ∧ w.kind < 8 ∧
  ∀ (H' : Hp) (p : Addr) (ts : List Addr), Same H H' → H p = none → H' p = some (.lst (ts.map V.ref)) → Each hT H' ts (Jm.behind w) → Q (.ref p) H'
/-- the hubs that a box takes by, as the program picks them -/
def picked (kd : Str) (n : Nat) (i : Nat) : List Hub := ((List.range i).filter fun k => decide (bkPairs.lookup (tW k) = some kd)).map fun k => (k, n)
theorem picked_succ (kd : Str) (n i : Nat) : picked kd n (i + 1) = if bkPairs.lookup (tW i) = some kd then picked kd n i ++ [(i, n)] else picked kd n i := by
  unfold picked
  rw [List.range_succ, List.filter_append, List.map_append]
  by_cases h : bkPairs.lookup (tW i) = some kd
  · rw [if_pos h, List.filter_cons_of_pos (by simpa using h)]
    simp
  · rw [if_neg h, List.filter_cons_of_neg (by simpa using h)]
    simp
theorem pick_box : ∀ s, s < 5 → 1 ≤ s → ∀ n, ((List.range 8).filter fun k => decide (bkPairs.lookup (tW k) = some (bName s))).map (fun k => (k, n)) = Pu.hubsOf (s, n) := by
  intro s h1 h2 n
  have e1 : ((List.range 8).filter fun k => decide (bkPairs.lookup (tW k) = some (bName 1))) = [1] := by decide +kernel
  have e2 : ((List.range 8).filter fun k => decide (bkPairs.lookup (tW k) = some (bName 2))) = [2] := by decide +kernel
  have e3 : ((List.range 8).filter fun k => decide (bkPairs.lookup (tW k) = some (bName 3))) = [3, 4, 5] := by decide +kernel
  have e4 : ((List.range 8).filter fun k => decide (bkPairs.lookup (tW k) = some (bName 4))) = [6, 7] := by decide +kernel
  match s, h1, h2 with
  | 1, _, _ => rw [e1]; rfl
  | 2, _, _ => rw [e2]; rfl
  | 3, _, _ => rw [e3]; rfl
  | 4, _, _ => rw [e4]; rfl
def compScope2 (st : Stmt) : Scope := match defBody st with
  | [_, _, .Return (some (.ListComp _ _ sc _)) _] => sc
  | _ => { kind := .function, names := [], isGenerator := false, isCoroutine := false }
structure TxtK (w : World) (K : PySem.W.Frag) (mg : Str → Option Value) (ab aT fb : Addr) : Prop where
  tb : TxtB w K mg ab
  mt : mg "TAKERS" = some (.ref aT)
  kt : Kinds K aT tW Jm.tNums
  mb : mg "box_of" = some (.ref fb)
section
variable {P : Program} {w : World} {K : PySem.W.Frag} {mg : Str → Option Value} {base : Heap}
theorem scBh : FnScope ["sender", "box", "kind"] ["sender"] (defScope sBehind) := ⟨rfl, rfl, rfl, by decide +kernel, rfl, by decide +kernel, by decide +kernel⟩
theorem blkBh : BlkOk ["sender", "box", "kind"] (defScope sBehind) (compScope2 sBehind) [("kind", 2)] := ⟨rfl, by decide +kernel, by decide +kernel, by decide +kernel, by decide +kernel⟩
def ttBh (w : World) (K : PySem.W.Frag) (ab : Addr) : TT := tTest (tOp rEq (tKGet1 w K (tC (.ref ab)) (tOp (rIxT K) (tVar 2) (tC (.int 0)))) (tOp (rIxT K) (tVar 1) (tC (.int 0))))
def teBh (K : PySem.W.Frag) : TE := tTup (tCons (tOp (rIxT K) (tVar 2) (tC (.int 0))) (tCons (tOp (rIxT K) (tVar 1) (tC (.int 1))) tNil))
theorem ok_behind {f ab aT fb : Addr} {fd fdb : FuncData} (F : Fun K "hubs_behind" "hubs_behind" sBehind f fd) (TK : TxtK w K mg ab aT fb)
    (GB : FnOk P w K mg base CX0 1 fb fdb ["hub"] spBox) (bB : Binds K fdb ["hub"] []) (kB : PySem.W.keepIn K (.ref fb) = true) :
    FnOk P w K mg base CX0 2 f fd ["sender"] spBehind := by
  refine F.ok scBh (fun vs H Q E h => ?_) (fun cdv A outer s H vs Q E hr h => ?_)
  · obtain ⟨h, w0, rfl, _⟩ := h
    rfl
  · obtain ⟨h, w0, rfl, hh, hk8, k⟩ := h
    refine ⟨_, pss_cons (ps_set (i := 1) scBh.nd rfl (Or.inr rfl) (pe_call GB hr (by rfl) TK.mb kB bB .nil pass0 (pa_cons (pv 0) pa_nil)))
      (pss_cons (ps_if (pt_cmp (pc_isN (pv 1))) (pss_one (ps_ret (pe_lst pa_nil))) pss_nil)
      (pss_one (ps_ret (pe_lc (tt := ttBh w K ab) (te := teBh K) (own := [("kind", 2)]) rfl scBh.nd (pi_tup (pe_glob (v := .ref aT) (by rfl) TK.mt rfl)) blkBh (fun _ _ _ _ _ => pg_name (i := 2) scBh.nd rfl (Or.inl rfl))
        (fun _ _ _ _ _ => by exact pts_one (pt_cmpR op_eq (pe_kget1 (pe_glob (v := .ref ab) (by rfl) TK.tb.bk rfl) (pe_ix ix_tup (pv 2) pe_int (fun _ _ => rfl)) ⟨rfl, rfl, rfl, rfl⟩) (pe_ix ix_tup (pv 1) pe_int (fun _ _ => rfl)) (nomark _)))
        (fun _ _ _ _ _ => by exact pe_tup (pa_cons (pe_ix ix_tup (pv 2) pe_int (fun _ _ => rfl)) (pa_cons (pe_ix ix_tup (pv 1) pe_int (fun _ _ => rfl)) pa_nil))))))), ?_⟩
    obtain ⟨rest, erest⟩ := hubS_two w0
    rw [erest] at hh
    obtain ⟨olk, on⟩ := out_look w0 hk8
    refine ⟨_, rfl, h, sW w0.kind, (w0.n : Nat), rest, rfl, hh, fun hno => ?_, fun kd hkd H1 q u1 hq => ?_⟩
    · have ho : w0.outOf = none := by
        rw [olk] at hno
        cases z : w0.outOf with
        | none => rfl
        | some a => rw [z] at hno; cases hno
      refine ⟨_, rfl, _, rfl, iteT ?_⟩
      refine ⟨(by show 0 ≤ sizeLine; decide), fun p hp => ?_⟩
      have u2 : Same H (upd H p (.lst [])) := fun d o e => by rw [upd_ne (ne_of_none e hp)]; exact e
      refine k _ p [] u2 hp upd_same ?_
      unfold Jm.behind
      rw [ho]
      exact .nil
    · obtain ⟨a, ho, ekd⟩ : ∃ a, w0.outOf = some a ∧ bName a.1 = kd := by
        rw [olk] at hkd
        cases z : w0.outOf with
        | none => rw [z] at hkd; cases hkd
        | some a => rw [z] at hkd; exact ⟨a, rfl, Option.some.inj hkd⟩
      have hBa := out_bx ho
      have han := on a ho
      obtain ⟨ts, ns, hts, hns, hK, hKs⟩ := TK.kt.ex
      refine ⟨_, rfl, _, rfl, iteF ?_⟩
      refine ⟨aT, rfl, ⟨_, hK.sq⟩, fun D hD => lc_tup (K := K) (a := aT) (xs := ts.map V.ref) (fun i H' => ∃ us : List Addr, Same H1 H' ∧ H' D = some (.lst (us.map V.ref)) ∧ Each hT H' us (picked kd w0.n i)) ?_ (fun i H' _ _ => hK.sq) ?_ ?_⟩
      · refine ⟨[], fun d o e => by rw [upd_ne (ne_of_none e hD)]; exact e, upd_same, ?_⟩
        exact .nil
      · rintro i x H' hx ⟨us, s1, hus, hE⟩
        obtain ⟨t, ht, rfl⟩ := ref_get hx
        have hi : i < 8 := by rw [← hts]; exact (List.getElem?_eq_some_iff.mp ht).1
        obtain ⟨n, hn⟩ : ∃ m, ns[i]? = some m := ⟨_, List.getElem?_eq_getElem (show i < ns.length by omega)⟩
        obtain ⟨hT1, _⟩ := hKs i t n ht hn
        have hq' := s1 _ _ hq
        refine ⟨rfl, ?_⟩
        refine ⟨ab, bkF, rfl, TK.tb.d, _, rfl, t, _, _, _, rfl, rfl, hT1.sq, at_of (j := 0) rfl rfl, tW i, rfl, _, rfl, q, _, _, _, rfl, rfl, SqT.of hq', at_of (j := 0) rfl rfl, ?_⟩
        have hps := picked_succ kd w0.n i
        have hlen : us.length ≤ 8 := by
          rw [hE.len]
          unfold picked
          rw [List.length_map]
          have := List.length_filter_le (fun k => decide (bkPairs.lookup (tW k) = some kd)) (List.range i)
          rw [List.length_range] at this
          omega
        cases e : bkPairs.lookup (tW i) with
        | none =>
          have e2 : (bkF (tW i)).getD .non = .non := by unfold bkF; rw [e]; rfl
          rw [e2]
          rw [if_neg (by rw [e]; intro z; cases z)] at hps
          rw [hps]
          exact ⟨rfl, _, rfl, iteF ⟨us, s1, hus, hE⟩⟩
        | some kd' =>
          have e2 : (bkF (tW i)).getD .non = .str kd' := by unfold bkF; rw [e]; rfl
          rw [e2]
          refine ⟨rfl, _, rfl, ite2 (fun heq => ?_) fun heq => ?_⟩
          · have ekk : kd' = kd := V.str.inj (of_decide_eq_true heq)
            subst ekk
            rw [if_pos e] at hps
            refine ⟨_, rfl, t, _, _, _, rfl, rfl, hT1.sq, at_of (j := 0) rfl rfl, _, rfl, q, _, _, _, rfl, rfl, SqT.of hq', at_of (j := 1) rfl rfl, (by show 2 ≤ sizeLine; decide), fun r hr' => ?_⟩
            have nrD : r ≠ D := fun z => by rw [z, hus] at hr'; cases hr'
            refine ⟨us.map V.ref, by rw [upd_ne (Ne.symm nrD)]; exact hus, by rw [List.length_map]; exact Nat.lt_of_le_of_lt hlen (by decide), us ++ [r], fun d o z => ?_, ?_, ?_⟩
            · rw [upd_ne (ne_of_none z hD), upd_ne (ne_of_none (s1 _ _ z) hr')]
              exact s1 _ _ z
            · rw [upd_same, List.map_append]; rfl
            · rw [hps]
              refine (hE.mono fun d xs z => ?_).snoc ?_
              · rw [upd_ne (ne_of z hus (by intro y; cases y)), upd_ne (ne_of_none z hr')]
                exact z
              · rw [upd_ne nrD, upd_same]
                rfl
          · have hne : ¬ kd' = kd := fun z => heq (decide_eq_true (by rw [z]))
            rw [if_neg (by rw [e]; intro z; exact hne (Option.some.inj z))] at hps
            rw [hps]
            exact ⟨us, s1, hus, hE⟩
      · rintro H' ⟨us, s1, hus, hE⟩
        rw [List.length_map, hts] at hE
        refine k H' D us (u1.trans s1) (u1.free hD) hus ?_
        have : picked kd w0.n 8 = Jm.behind w0 := by
          unfold Jm.behind picked
          rw [ho, ← ekd]
          obtain ⟨a1, a2⟩ := a
          have ea : a2 = w0.n := han
          subst ea
          exact pick_box a1 (by have := hBa.2; simp at this; omega) hBa.1 _
        rw [← this]
        exact hE
/-! ### senders_by_taker -/
structure SendAt (H : Hp) (d : Addr) (l : List Wire) : Prop where
  ex : ∃ kvs : List (List Key × V), H d = some (.dT kvs) ∧ kvs.length ≤ l.length ∧ ∀ h : Hub, h.1 < 8 → (valV kvs (hkK h) = none → ¬ Jm.Wired l h) ∧
    ∀ v, valV kvs (hkK h) = some v → ∃ w ∈ l, (w.into, w.k) = h ∧ ∃ q, v = .ref q ∧ H q = some (.tup (hubSV w))
theorem SendAt.same {H H' : Hp} {d : Addr} {l : List Wire} (h : SendAt H d l) (e : Same H H') : SendAt H' d l := by
  obtain ⟨kvs, h1, h2, h3⟩ := h.ex
  refine ⟨kvs, e _ _ h1, h2, fun x hx => ⟨(h3 x hx).1, fun v hv => ?_⟩⟩
  obtain ⟨w, hw, e1, q, e2, e3⟩ := (h3 x hx).2 v hv
  exact ⟨w, hw, e1, q, e2, e _ _ e3⟩
def spSend : Sp := fun vs H Q _ => ∃ (p : Addr) (qs : List Addr) (ws : List Wire), vs = [.ref p] ∧ WiresAt H p qs ws ∧ ws.length ≤ 256 ∧ (∀ w ∈ ws, w.ok = true) ∧
  ∀ (H' : Hp) (d : Addr), Same H H' → H d = none → SendAt H' d ws → Q (.ref d) H'
theorem scSd : FnScope ["wires", "senders", "wire"] ["wires"] (defScope sSend) := ⟨rfl, rfl, rfl, by decide +kernel, rfl, by decide +kernel, by decide +kernel⟩
theorem ok_send {f : Addr} {fd : FuncData} (F : Fun K "senders_by_taker" "senders_by_taker" sSend f fd) : FnOk P w K mg base CX0 1 f fd ["wires"] spSend := by
  refine F.ok scSd (fun vs H Q E h => ?_) (fun cdv A outer s H vs Q E hr h => ?_)
  · obtain ⟨p, qs, ws, rfl, _⟩ := h
    rfl
  · obtain ⟨p, qs, ws, rfl, hW, hln, hok, k⟩ := h
    have hu := hu_of hr
    refine ⟨_, pss_cons (ps_set (i := 1) scSd.nd rfl (Or.inl rfl) pe_dnewT)
      (pss_cons (ps_for PassesOwn.never rfl (pi_list (pv 0)) (pg_name (i := 2) scSd.nd rfl (Or.inl rfl))
        (pss_one (ps_dput hu (pv 1) (pe_ix ix_tup (pv 2) pe_int (fun _ _ => rfl)) (pe_ix ix_tup (pv 2) pe_int (fun _ _ => rfl)) rfl)))
      (pss_one (ps_ret (pv 1)))), ?_⟩
    refine fun d hd => ?_
    have u0 : Same H (upd H d (.dT [])) := fun c o e => by rw [upd_ne (ne_of_none e hd)]; exact e
    refine ⟨_, rfl, p, rfl, ⟨_, SqL.of (u0 _ _ hW.lst)⟩, for_list (K := K) (a := p) (xs := qs.map V.ref) (fun i σ H' => ∃ v2 : Option V, σ = [some (.ref p), some (.ref d), v2] ∧ Same H H' ∧ SendAt H' d (ws.take i))
      ⟨none, rfl, u0, ⟨[], upd_same, Nat.zero_le _, fun h _ => ⟨fun _ ⟨w, hw, _⟩ => (by cases hw), fun v hv => (by cases hv)⟩⟩⟩ (fun i σ H' _ ⟨_, _, s1, _⟩ => SqL.of (s1 _ _ hW.lst)) ?_ ?_⟩
    · rintro i x σ H' hx ⟨v2, rfl, s1, hS⟩
      obtain ⟨q, hq, rfl⟩ := ref_get hx
      have hi : i < ws.length := by rw [← hW.len]; exact (List.getElem?_eq_some_iff.mp hq).1
      obtain ⟨w0, hw⟩ : ∃ w, ws[i]? = some w := ⟨_, List.getElem?_eq_getElem hi⟩
      obtain ⟨q1, q2, w1, w2, w3⟩ := hW.at_ i q w0 hq hw
      have hlt := ok_lt (hok w0 (List.mem_of_getElem? hw))
      have etk : ws.take (i + 1) = ws.take i ++ [w0] := by rw [List.take_add_one, hw]; rfl
      obtain ⟨kvs, h1, h2, h3⟩ := hS.ex
      have htl : (ws.take i).length ≤ 256 := by rw [List.length_take]; omega
      refine ⟨_, rfl, q, _, _, _, rfl, rfl, SqT.of (s1 _ _ w1), at_of (j := 0) rfl rfl, _, rfl, _, rfl, q, _, _, _, rfl, rfl, SqT.of (s1 _ _ w1), at_of (j := 1) rfl rfl, d, _, rfl, DPut.t (k := hkK (w0.into, w0.k)) h1 (s1 _ _ w3) (Nat.lt_of_le_of_lt (Nat.le_trans h2 htl) (by decide)), ?_⟩
      refine ⟨_, rfl, fun c o e => by rw [upd_ne (ne_of_none e hd)]; exact s1 _ _ e, _, upd_same, ?_, fun h hh => ?_⟩
      · have := put_len kvs (hkK (w0.into, w0.k)) (.ref q1)
        rw [etk, List.length_append, List.length_singleton]
        omega
      · rw [valV_put]
        have keep : ∀ c xs, H' c = some (.tup xs) → (upd H' d (.dT (putK kvs (hkK (w0.into, w0.k)) (.ref q1)))) c = some (.tup xs) := fun c xs e => by rw [upd_ne (ne_of e h1 (by intro z; cases z))]; exact e
        by_cases e : hkK h = hkK (w0.into, w0.k)
        · rw [if_pos e]
          have e' := hkK_inj hh hlt.2 e
          refine ⟨fun z => (by cases z), fun v hv => ?_⟩
          cases hv
          exact ⟨w0, by rw [etk]; simp, e'.symm, q1, rfl, keep _ _ (s1 _ _ w2)⟩
        · rw [if_neg e]
          refine ⟨fun z ⟨v, hv, ev⟩ => ?_, fun v hv => ?_⟩
          · rw [etk] at hv
            rcases List.mem_append.mp hv with m | m
            · exact (h3 h hh).1 z ⟨v, m, ev⟩
            · rw [List.mem_singleton.mp m] at ev
              exact e (by rw [← ev])
          · obtain ⟨w', hw', e1, q', e2, e3⟩ := (h3 h hh).2 v hv
            exact ⟨w', by rw [etk]; exact List.mem_append_left _ hw', e1, q', e2, keep _ _ e3⟩
    · rintro σ H' ⟨v2, rfl, s1, hS⟩
      rw [List.length_map, hW.len, List.take_length] at hS
      exact ⟨_, rfl, k H' d s1 hd hS⟩
end
end Hb
end

section
set_option Elab.async false
set_option linter.all false
set_option maxRecDepth 100000
set_option maxHeartbeats 4000000
namespace Hb
open PySem PySem.Spec PyProof.Rows L2
open Pu (Box Wire)
open Jm (Hub)
abbrev sTold : Stmt := top 21
abbrev sRefL : Stmt := top 22
abbrev sFigH : Stmt := top 23
abbrev sHoles : Stmt := top 24
abbrev sByHub : Stmt := top 25
/-! ### a range by twos -/
theorem size_two (m : Nat) : Builtin.Range.rangeSize 0 ((2 * m : Nat) : Int) 2 = m := by
  unfold Builtin.Range.rangeSize; rw [if_pos (by decide)]
  split <;> omega
theorem range_two (m : Nat) (h : 2 * m ≤ 65536) : RgC 0 ((2 * m : Nat) : Int) 2 m := by
  refine ⟨by decide, by decide, ?_, size_two m⟩
  have fit : ∀ x : Int, 0 ≤ x → x ≤ 65538 → Builtin.Range.rangeFitsLong x = true := fun x h1 h2 => by
    unfold Builtin.Range.rangeFitsLong
    rw [Bool.and_eq_true, decide_eq_true_iff, decide_eq_true_iff]
    omega
  unfold Builtin.Range.small
  rw [size_two, if_pos (by decide), fit 0 (by omega) (by omega), fit _ (by omega) (by omega), fit 2 (by omega) (by omega), fit (m : Int) (by omega) (by omega), fit _ (by omega) (by omega)]
  simp
theorem told_odd : ∀ (l : List Int) (last b : Int), l.length % 2 = 1 → Jm.toldB last b l = false
  | [], _, _, h => by simp at h
  | [_], _, _, _ => rfl
  | c :: h :: r, last, b, e => by
    unfold Jm.toldB
    rw [told_odd r last c (by simp at e; omega), Bool.and_false]
theorem told_drop {l : List Int} {i : Nat} {c h last b : Int} (hc : l[2 * i]? = some c) (hh : l[2 * i + 1]? = some h) : Jm.toldB last b (l.drop (2 * i)) = (decide (b < c ∧ c ≤ last ∧ 0 < h ∧ h ≤ 4095) && Jm.toldB last c (l.drop (2 * (i + 1)))) := by
  obtain ⟨h1, e1⟩ := List.getElem?_eq_some_iff.mp hc
  obtain ⟨h2, e2⟩ := List.getElem?_eq_some_iff.mp hh
  rw [List.drop_eq_getElem_cons h1, List.drop_eq_getElem_cons h2, e1, e2]
  rfl
def spTold (K : PySem.W.Frag) : Sp := fun vs H Q _ => ∃ (a : Addr) (ns : List Int) (last : Int), vs = [.ref a, .int last] ∧ SqL K H a (ns.map V.int) ∧ ns.length ≤ 65536 ∧ Q (.bl (Jm.toldB last (-1) ns)) H
structure TxtT (mg : Str → Option Value) : Prop where
  nothing : ∃ t, mg "NOTHING" = some (.int 0 t)
  rows : ∃ t, mg "ALL_ROWS" = some (.int 4095 t)
  range : mg "range" = none
  len : mg "len" = none
section
variable {P : Program} {w : World} {K : PySem.W.Frag} {mg : Str → Option Value} {base : Heap}
theorem scTo : FnScope ["row", "last_number", "before", "place"] ["row", "last_number"] (defScope sTold) := ⟨rfl, rfl, rfl, by decide +kernel, rfl, by decide +kernel, by decide +kernel⟩
theorem int_get {ns : List Int} {i : Nat} {n : Int} (h : ns[i]? = some n) : (ns.map V.int)[i]? = some (.int n) := by rw [List.getElem?_map, h]; rfl
theorem ok_told {f : Addr} {fd : FuncData} (F : Fun K "is_told" "is_told" sTold f fd) (TT : TxtT mg) : FnOk P w K mg base CX0 1 f fd ["row", "last_number"] (spTold K) := by
  refine F.ok scTo (fun vs H Q E h => ?_) (fun cdv A outer s H vs Q E hr h => ?_)
  · obtain ⟨a, ns, last, rfl, _⟩ := h
    rfl
  · obtain ⟨a, ns, last, rfl, hS, hlen, k⟩ := h
    obtain ⟨t1, e1⟩ := TT.nothing
    obtain ⟨t2, e2⟩ := TT.rows
    refine ⟨_, pss_cons (ps_if (pt_cmpR op_eq (pe_op op_mod (pe_callB call_len_seq (by rfl) TT.len PySem.boot_len (pa_cons (pv 0) pa_nil)) pe_int) pe_int (nomark _)) (pss_one (ps_ret pe_bl)) pss_nil)
      (pss_cons (ps_set (i := 2) scTo.nd rfl (Or.inl rfl) (pe_un un_neg pe_int))
      (pss_cons (ps_for PassesOwn.never rfl (pi_range3 (by rfl) TT.range (pa_cons pe_int (pa_cons (pe_callB call_len_seq (by rfl) TT.len PySem.boot_len (pa_cons (pv 0) pa_nil)) (pa_cons pe_int pa_nil)))) (pg_name (i := 3) scTo.nd rfl (Or.inl rfl))
        (pss_cons (ps_if (pt_not (pt_chain op_lt op_le (pv 2) (pe_ix ix_list (pv 0) (pv 3) (fun _ _ => rfl)) (pv 1))) (pss_one (ps_ret pe_bl)) pss_nil)
        (pss_cons (ps_if (pt_not (pt_chain op_lt op_le (pe_glob (v := .int 0) (by rfl) e1 ⟨t1, rfl⟩) (pe_ix ix_list (pv 0) (pe_op op_add (pv 3) pe_int) (fun _ _ => rfl)) (pe_glob (v := .int 4095) (by rfl) e2 ⟨t2, rfl⟩))) (pss_one (ps_ret pe_bl)) pss_nil)
        (pss_one (ps_set (i := 2) scTo.nd rfl (Or.inl rfl) (pe_ix ix_list (pv 0) (pv 3) (fun _ _ => rfl)))))))
      (pss_one (ps_ret pe_bl)))), ?_⟩
    refine ⟨_, rfl, a, _, rfl, .inl hS, _, _, rfl, rfl, (by show (0 : Int) < 2; decide), rfl, _, rfl, ite2 (fun hod => ?_) fun hod => ?_⟩
    · have h1 : ((ns.map V.int).length : Int) % 2 = 1 := V.int.inj (of_decide_eq_true hod)
      rw [List.length_map] at h1
      rw [told_odd ns last (-1) (by omega)] at k
      exact k
    · have h1 : ¬ ((ns.map V.int).length : Int) % 2 = 1 := fun z => hod (decide_eq_true (congrArg V.int z))
      rw [List.length_map] at h1
      obtain ⟨m, hm⟩ : ∃ m, ns.length = 2 * m := ⟨ns.length / 2, by omega⟩
      refine ⟨_, rfl, _, rfl, a, _, rfl, .inl hS, _, _, _, m, rfl, ?_, for_rangeC (lo := 0) (c := 2) (n := m) (fun i σ H' => ∃ (b : Int) (v3 : Option V), σ = [some (.ref a), some (.int last), some (.int b), v3] ∧ H' = H ∧ Jm.toldB last (-1) ns = Jm.toldB last b (ns.drop (2 * i))) ⟨-1, none, rfl, rfl, rfl⟩ ?_ ?_⟩
      · rw [List.length_map, hm]
        exact range_two m (by omega)
      · rintro i σ H' hi ⟨b, v3, rfl, rfl, hto⟩
        obtain ⟨c, hc⟩ : ∃ c, ns[2 * i]? = some c := ⟨_, List.getElem?_eq_getElem (by omega)⟩
        obtain ⟨h, hh⟩ : ∃ h, ns[2 * i + 1]? = some h := ⟨_, List.getElem?_eq_getElem (by omega)⟩
        rw [told_drop hc hh] at hto
        have ei : (0 : Int) + ((i : Nat) : Int) * 2 = ((2 * i : Nat) : Int) := by omega
        have ej : (0 : Int) + ((i : Nat) : Int) * 2 + 1 = ((2 * i + 1 : Nat) : Int) := by omega
        have bad : ¬ (b < c ∧ c ≤ last ∧ 0 < h ∧ h ≤ 4095) → Q (.bl false) H' := fun z => by
          rw [hto, decide_eq_false z] at k
          exact k
        refine ⟨_, rfl, _, rfl, _, rfl, a, _, _, _, rfl, rfl, hS, at_of ei (int_get hc), _, _, rfl, rfl, _, rfl, ite2 (fun q1 => ?_) fun q1 => ?_⟩
        · have q1' : b < c := of_decide_eq_true q1
          refine ⟨_, rfl, _, _, rfl, rfl, _, rfl, ite2 (fun q2 => ?_) fun q2 => ?_⟩
          · have q2' : ¬ c ≤ last := fun z => by
              rw [decide_eq_true z] at q2
              cases q2
            exact bad fun z => q2' z.2.1
          · have q2' : c ≤ last := Decidable.byContradiction fun z => q2 (by rw [decide_eq_false z]; rfl)
            refine ⟨_, rfl, _, rfl, _, _, rfl, rfl, a, _, _, _, rfl, rfl, hS, at_of ej (int_get hh), _, _, rfl, rfl, _, rfl, ite2 (fun q3 => ?_) fun q3 => ?_⟩
            · have q3' : 0 < h := of_decide_eq_true q3
              refine ⟨_, _, rfl, rfl, _, rfl, ite2 (fun q4 => ?_) fun q4 => ?_⟩
              · have q4' : ¬ h ≤ 4095 := fun z => by
                  rw [decide_eq_true z] at q4
                  cases q4
                exact bad fun z => q4' z.2.2.2
              · have q4' : h ≤ 4095 := Decidable.byContradiction fun z => q4 (by rw [decide_eq_false z]; rfl)
                refine ⟨_, rfl, _, rfl, a, _, _, _, rfl, rfl, hS, at_of ei (int_get hc), ?_⟩
                rw [decide_eq_true ⟨q1', q2', q3', q4'⟩, Bool.true_and] at hto
                exact ⟨c, _, rfl, rfl, hto⟩
            · exact ⟨_, rfl, iteT (bad fun z => q3 (decide_eq_true z.2.2.1))⟩
        · exact ⟨_, rfl, iteT (bad fun z => q1 (decide_eq_true z.1))⟩
      · rintro σ H' ⟨b, v3, rfl, rfl, hto⟩
        rw [hto, List.drop_eq_nil_of_le (by omega)] at k
        exact k
end
end Hb
end

section
set_option Elab.async false
set_option linter.all false
set_option maxRecDepth 100000
set_option maxHeartbeats 4000000
namespace Jm
/-- why a text with its card and what the machine sends is refused -/
def refL (b : Pu.Bytes) (cs fs : List Int) : List Int := if refusal b = [] then (if (toldB 79 (-1) cs && toldB 255 (-1) fs) = true then [] else [-8]) else refusal b
end Jm
namespace Hb
open PySem PySem.Spec PyProof.Rows L2
open Pu (Box Wire)
open Jm (Hub)
def spRefL (K : PySem.W.Frag) (t : Tb) : Sp := fun vs H Q _ => ∃ (a c f : Addr) (b : Bytes) (cs fs : List Int), vs = [.ref a, .ref c, .ref f] ∧ SqL K H a (bL b) ∧ b.length ≤ 65536 ∧ SqL K H c (cs.map V.int) ∧ cs.length ≤ 65536 ∧ SqL K H f (fs.map V.int) ∧ fs.length ≤ 65536 ∧ Tab t H ∧
  ∀ (H' : Hp) (q : Addr), SameT H H' → Tab t H' → H' q = some (.lst (iL (Jm.refL b cs fs))) → Q (.ref q) H'
structure TxtRL (mg : Str → Option Value) (fr ft : Addr) : Prop where
  col : ∃ t, mg "LAST_COLUMN" = some (.int 79 t)
  last : ∃ t, mg "LAST_HUB" = some (.int 255 t)
  nt : ∃ t, mg "NOT_TOLD" = some (.int (-8) t)
  mr : mg "find_refusal" = some (.ref fr)
  mt : mg "is_told" = some (.ref ft)
section
variable {P : Program} {w : World} {K : PySem.W.Frag} {mg : Str → Option Value} {base : Heap}
theorem scRL : FnScope ["text", "card", "sending", "refusal"] ["text", "card", "sending"] (defScope sRefL) := ⟨rfl, rfl, rfl, by decide +kernel, rfl, by decide +kernel, by decide +kernel⟩
theorem ok_refL {f fr ft : Addr} {fd fdr fdt : FuncData} {tb : Tb} (F : Fun K "find_refusal_with_lists" "find_refusal_with_lists" sRefL f fd) (TL : TxtRL mg fr ft)
    (GR : FnOk P w K mg base CX0 9 fr fdr ["text"] (spRef K tb)) (bR : Binds K fdr ["text"] []) (kR : PySem.W.keepIn K (.ref fr) = true)
    (GT : FnOk P w K mg base CX0 1 ft fdt ["row", "last_number"] (spTold K)) (bT : Binds K fdt ["row", "last_number"] []) (kT : PySem.W.keepIn K (.ref ft) = true) :
    FnOk P w K mg base CX0 10 f fd ["text", "card", "sending"] (spRefL K tb) := by
  refine F.ok scRL (fun vs H Q E h => ?_) (fun cdv A outer s H vs Q E hr h => ?_)
  · obtain ⟨a, c, f, b, cs, fs, rfl, _⟩ := h
    rfl
  · obtain ⟨a, c, f, b, cs, fs, rfl, hS, hlen, hc, hcl, hf, hfl, hT, k⟩ := h
    obtain ⟨t1, e1⟩ := TL.col
    obtain ⟨t2, e2⟩ := TL.last
    obtain ⟨t3, e3⟩ := TL.nt
    have hr1 := hr.mono (show 1 ≤ 9 by decide)
    refine ⟨_, pss_cons (ps_set (i := 3) scRL.nd rfl (Or.inl rfl) (pe_call GR hr (by rfl) TL.mr kR bR .nil pass0 (pa_cons (pv 0) pa_nil)))
      (pss_cons (ps_if (pt_truth (pv 3) (fun _ => rfl)) (pss_one (ps_ret (pv 3))) pss_nil)
      (pss_cons (ps_if (PW.pt (pw_and (pt_val (pe_call GT hr1 (by rfl) TL.mt kT bT .nil pass0 (pa_cons (pv 1) (pa_cons (pe_glob (v := .int 79) (by rfl) e1 ⟨t1, rfl⟩) pa_nil)))) (pw_and1 (pt_val (pe_call GT hr1 (by rfl) TL.mt kT bT .nil pass0 (pa_cons (pv 2) (pa_cons (pe_glob (v := .int 255) (by rfl) e2 ⟨t2, rfl⟩) pa_nil))))))) (pss_one (ps_ret (pe_lst pa_nil))) pss_nil)
      (pss_one (ps_ret (pe_lst (pa_cons (pe_glob (v := .int (-8)) (by rfl) e3 ⟨t3, rfl⟩) pa_nil)))))), ?_⟩
    refine ⟨_, rfl, a, b, rfl, hS, hlen, hT, fun H1 q s1 hT1 hq => ?_⟩
    refine ⟨_, rfl, _, .inl ⟨_, SqL.of hq, rfl⟩, ite2 (fun hne => ?_) fun hne => ?_⟩
    · have hn : Jm.refusal b ≠ [] := fun z => by rw [z] at hne; exact absurd hne (by decide)
      exact ⟨_, rfl, k H1 q s1 hT1 (by unfold Jm.refL; rw [if_neg hn]; exact hq)⟩
    · have hn : Jm.refusal b = [] := by
        cases z : Jm.refusal b with
        | nil => rfl
        | cons x r => rw [z] at hne; exact absurd rfl hne
      have fin : ∀ (r : List Int) (z : Addr), H1 z = none → (if (Jm.toldB 79 (-1) cs && Jm.toldB 255 (-1) fs) = true then [] else [-8]) = r → Q (.ref z) (upd H1 z (.lst (iL r))) := fun r z hz er => by
        have u3 : Same H1 (upd H1 z (.lst (iL r))) := fun d o e => by rw [upd_ne (ne_of_none e hz)]; exact e
        refine k _ z (s1.trans u3.t) (u3.tab hT1) ?_
        rw [upd_same]
        unfold Jm.refL
        rw [if_pos hn, er]
      refine ⟨_, rfl, c, cs, 79, rfl, SameT.sqL s1 hc, hcl, _, rfl, ite2 (fun h1 => ?_) fun h1 => ?_⟩
      · refine ⟨_, rfl, f, fs, 255, rfl, SameT.sqL s1 hf, hfl, _, rfl, ite2 (fun h2 => ?_) fun h2 => ?_⟩
        · exact ⟨(by show 0 ≤ sizeLine; decide), fun z hz => fin [] z hz (by rw [h1, h2]; rfl)⟩
        · exact ⟨(by show 1 ≤ sizeLine; decide), fun z hz => fin [-8] z hz (by rw [if_neg (by rw [h1, Bool.true_and]; exact h2)])⟩
      · exact iteF ⟨(by show 1 ≤ sizeLine; decide), fun z hz => fin [-8] z hz (by rw [if_neg (by intro q; rw [Bool.and_eq_true] at q; exact h1 q.1)])⟩
/-! ### the code -/
def spFigH : Sp := fun vs H Q _ => ∃ d : Int, vs = [.int d] ∧ 0 ≤ d ∧ d ≤ 100 ∧ Q (.int (1 * 2 ^ (d + 2).toNat)) H
theorem scFi : FnScope ["figure"] ["figure"] (defScope sFigH) := ⟨rfl, rfl, rfl, by decide +kernel, rfl, by decide +kernel, by decide +kernel⟩
theorem ok_figH {f : Addr} {fd : FuncData} (F : Fun K "hole_of_figure" "hole_of_figure" sFigH f fd) : FnOk P w K mg base CX0 1 f fd ["figure"] spFigH := by
  refine F.ok scFi (fun vs H Q E h => ?_) (fun cdv A outer s H vs Q E hr h => ?_)
  · obtain ⟨d, rfl, _⟩ := h
    rfl
  · obtain ⟨d, rfl, h0, h1, k⟩ := h
    refine ⟨_, pss_one (ps_ret (pe_op op_shl pe_int (pe_op op_add (pv 0) pe_int))), ?_⟩
    exact ⟨_, rfl, _, _, rfl, rfl, _, _, rfl, rfl, ⟨by omega, by omega, by decide⟩, k⟩
/-- the holes of the zone -/
def hz (n : Nat) : Int := if (n : Int) / 16 > 0 then 1 * 2 ^ ((n : Int) / 16 - 1).toNat else 0
theorem code_a : ∀ n : Nat, n < 64 → (n : Int) % 16 > 9 → Builtin.bitOr (Builtin.bitOr (hz n) (1 * 2 ^ ((8 : Int) + 2).toNat)) (1 * 2 ^ ((n : Int) % 16 - 8 + 2).toNat) = (Pu.code n : Nat) := by decide +kernel
theorem code_b : ∀ n : Nat, n < 64 → ¬ (n : Int) % 16 > 9 → (n : Int) % 16 > 0 → Builtin.bitOr (hz n) (1 * 2 ^ ((n : Int) % 16 + 2).toNat) = (Pu.code n : Nat) := by decide +kernel
theorem code_c : ∀ n : Nat, n < 64 → ¬ (n : Int) % 16 > 0 → hz n = (Pu.code n : Nat) := by decide +kernel
def spHoles : Sp := fun vs H Q _ => ∃ n : Nat, vs = [.int (n : Int)] ∧ n < 64 ∧ Q (.int (Pu.code n : Nat)) H
theorem scHo : FnScope ["number", "zone", "value", "holes"] ["number"] (defScope sHoles) := ⟨rfl, rfl, rfl, by decide +kernel, rfl, by decide +kernel, by decide +kernel⟩
structure TxtHo (mg : Str → Option Value) (ff : Addr) : Prop where
  nothing : ∃ t, mg "NOTHING" = some (.int 0 t)
  mf : mg "hole_of_figure" = some (.ref ff)
theorem ok_holes {f ff : Addr} {fd fdf : FuncData} (F : Fun K "holes_of_number" "holes_of_number" sHoles f fd) (TH : TxtHo mg ff)
    (GF : FnOk P w K mg base CX0 1 ff fdf ["figure"] spFigH) (bF : Binds K fdf ["figure"] []) (kF : PySem.W.keepIn K (.ref ff) = true) : FnOk P w K mg base CX0 2 f fd ["number"] spHoles := by
  refine F.ok scHo (fun vs H Q E h => ?_) (fun cdv A outer s H vs Q E hr h => ?_)
  · obtain ⟨n, rfl, _⟩ := h
    rfl
  · obtain ⟨n, rfl, hn, k⟩ := h
    obtain ⟨t1, e1⟩ := TH.nothing
    refine ⟨_, pss_cons (ps_set (i := 1) scHo.nd rfl (Or.inl rfl) (pe_op op_fdiv (pv 0) pe_int))
      (pss_cons (ps_set (i := 2) scHo.nd rfl (Or.inl rfl) (pe_op op_mod (pv 0) pe_int))
      (pss_cons (ps_set (i := 3) scHo.nd rfl (Or.inl rfl) (pe_glob (v := .int 0) (by rfl) e1 ⟨t1, rfl⟩))
      (pss_cons (ps_if (pt_cmpR op_gt (pv 1) pe_int (nomark _)) (pss_one (ps_set (i := 3) scHo.nd rfl (Or.inl rfl) (pe_op op_shl pe_int (pe_op op_sub (pv 1) pe_int)))) pss_nil)
      (pss_cons (ps_if (pt_cmpR op_gt (pv 2) pe_int (nomark _)) (pss_one (ps_ret (pe_op op_or (pe_op op_or (pv 3) (pe_call GF hr (by rfl) TH.mf kF bF .nil pass0 (pa_cons pe_int pa_nil))) (pe_call GF hr (by rfl) TH.mf kF bF .nil pass0 (pa_cons (pe_op op_sub (pv 2) pe_int) pa_nil))))) pss_nil)
      (pss_cons (ps_if (pt_cmpR op_gt (pv 2) pe_int (nomark _)) (pss_one (ps_ret (pe_op op_or (pv 3) (pe_call GF hr (by rfl) TH.mf kF bF .nil pass0 (pa_cons (pv 2) pa_nil))))) pss_nil)
      (pss_one (ps_ret (pv 3)))))))), ?_⟩
    have rest : ∀ (z : Int), z = hz n → (if decide ((9 : Int) < (n : Int) % 16) = true then Q (.int (Builtin.bitOr (Builtin.bitOr z (1 * 2 ^ ((8 : Int) + 2).toNat)) (1 * 2 ^ ((n : Int) % 16 - 8 + 2).toNat))) H else if decide ((0 : Int) < (n : Int) % 16) = true then Q (.int (Builtin.bitOr z (1 * 2 ^ ((n : Int) % 16 + 2).toNat))) H else Q (.int z) H) := by
      intro z ez
      subst ez
      refine ite2 (fun h1 => ?_) fun h1 => ite2 (fun h2 => ?_) fun h2 => ?_
      · rw [code_a n hn (of_decide_eq_true h1)]; exact k
      · rw [code_b n hn (fun z => h1 (decide_eq_true z)) (of_decide_eq_true h2)]; exact k
      · rw [code_c n hn (fun z => h2 (decide_eq_true z))]; exact k
    refine ⟨_, rfl, _, _, rfl, rfl, ⟨by decide, by decide⟩, _, rfl, _, _, rfl, rfl, (by show (0 : Int) < 16; decide), _, rfl, _, _, rfl, rfl, _, rfl, ite2 (fun h1 => ?_) fun h1 => ?_⟩
    · have h1' : 0 < (n : Int) / 16 := of_decide_eq_true h1
      have hb : (n : Int) / 16 ≤ 3 := by omega
      have ez : (1 : Int) * 2 ^ ((n : Int) / 16 - 1).toNat = hz n := by unfold hz; rw [if_pos h1']
      have rs := rest _ ez
      refine ⟨_, rfl, _, _, rfl, rfl, _, _, rfl, rfl, ⟨by omega, by omega, by decide⟩, _, rfl, _, _, rfl, rfl, _, rfl, ite2 (fun h2 => ?_) fun h2 => ?_⟩
      · rw [if_pos h2] at rs
        have h2' : (9 : Int) < (n : Int) % 16 := of_decide_eq_true h2
        exact ⟨_, rfl, 8, rfl, by decide, by decide, _, _, rfl, rfl, _, rfl, _, _, rfl, rfl, _, rfl, by omega, by omega, _, _, rfl, rfl, rs⟩
      · rw [if_neg h2] at rs
        refine ⟨_, rfl, _, _, rfl, rfl, _, rfl, ite2 (fun h3 => ?_) fun h3 => ?_⟩
        · rw [if_pos h3] at rs
          exact ⟨_, rfl, _, rfl, _, rfl, by omega, by omega, _, _, rfl, rfl, rs⟩
        · rw [if_neg h3] at rs
          exact ⟨_, rfl, rs⟩
    · have ez : (0 : Int) = hz n := by unfold hz; rw [if_neg (fun z => h1 (decide_eq_true z))]
      have rs := rest _ ez
      refine ⟨_, rfl, _, _, rfl, rfl, _, rfl, ite2 (fun h2 => ?_) fun h2 => ?_⟩
      · rw [if_pos h2] at rs
        have h2' : (9 : Int) < (n : Int) % 16 := of_decide_eq_true h2
        exact ⟨_, rfl, 8, rfl, by decide, by decide, _, _, rfl, rfl, _, rfl, _, _, rfl, rfl, _, rfl, by omega, by omega, _, _, rfl, rfl, rs⟩
      · rw [if_neg h2] at rs
        refine ⟨_, rfl, _, _, rfl, rfl, _, rfl, ite2 (fun h3 => ?_) fun h3 => ?_⟩
        · rw [if_pos h3] at rs
          exact ⟨_, rfl, _, rfl, _, rfl, by omega, by omega, _, _, rfl, rfl, rs⟩
        · rw [if_neg h3] at rs
          exact ⟨_, rfl, rs⟩
end
end Hb
end

section
set_option Elab.async false
set_option linter.all false
set_option maxRecDepth 100000
set_option maxHeartbeats 4000000
namespace Hb
open PySem PySem.Spec PyProof.Rows L2
open Pu (Box Wire)
open Jm (Hub)
abbrev sSent : Stmt := top 26
/-! ### bits of numbers from 0 on -/
theorem band_nat (a b : Nat) : Builtin.bitAnd (a : Int) (b : Int) = ((a &&& b : Nat) : Int) := by
  unfold Builtin.bitAnd
  rw [decide_eq_true (Int.natCast_nonneg a), decide_eq_true (Int.natCast_nonneg b)]
  rfl
theorem bor_nat (a b : Nat) : Builtin.bitOr (a : Int) (b : Int) = ((a ||| b : Nat) : Int) := by
  have e : ∀ c : Nat, Builtin.bitNot (c : Int) < 0 ∧ Builtin.bitNot (Builtin.bitNot (c : Int)) = (c : Int) := fun c => by
    unfold Builtin.bitNot
    omega
  unfold Builtin.bitOr Builtin.bitAnd
  rw [decide_eq_false (Int.not_le.mpr (e a).1), decide_eq_false (Int.not_le.mpr (e b).1)]
  show Builtin.bitNot (Builtin.bitNot (((Builtin.bitNot (Builtin.bitNot (a : Int))).toNat ||| (Builtin.bitNot (Builtin.bitNot (b : Int))).toNat : Nat) : Int)) = _
  rw [(e a).2, (e b).2, (e _).2]
  rfl
/-! ### holes_by_hub -/
def hbK (z : Str) (p : List (Nat × Nat)) : List (List Key × V) := p.map fun x => ([Sum.inr z, Sum.inl (x.1 : Int)], V.int (x.2 : Nat))
theorem hbK_none {z : Str} {p : List (Nat × Nat)} {n : Nat} (h : n ∉ p.map Prod.fst) : valV (hbK z p) [Sum.inr z, Sum.inl (n : Int)] = none := by
  unfold valV hbK
  rw [List.find?_eq_none.mpr]
  · rfl
  · intro q hq e
    obtain ⟨x, hx, rfl⟩ := List.mem_map.mp hq
    have e' : ([Sum.inr z, Sum.inl (x.1 : Int)] : List Key) = [Sum.inr z, Sum.inl (n : Int)] := of_decide_eq_true e
    have e2 : (x.1 : Int) = n := Sum.inl.inj (List.cons.inj (List.cons.inj e').2).1
    exact h (List.mem_map.mpr ⟨x, hx, by omega⟩)
theorem hbK_look (z : Str) : ∀ (p : List (Nat × Nat)) (n : Nat), (valV (hbK z p) [Sum.inr z, Sum.inl (n : Int)]).getD (.int 0) = .int (((Jm.lookN p n).getD 0 : Nat) : Int)
  | [], n => rfl
  | x :: p, n => by
    have e : hbK z (x :: p) = ([Sum.inr z, Sum.inl (x.1 : Int)], V.int (x.2 : Nat)) :: hbK z p := rfl
    rw [e]
    by_cases h : x.1 = n
    · subst h
      rw [valV_pos rfl]
      have : Jm.lookN (x :: p) x.1 = some x.2 := by unfold Jm.lookN; rw [List.find?_cons_of_pos (by simp)]; rfl
      rw [this]
      rfl
    · rw [valV_neg (fun q => h (by have e2 : (x.1 : Int) = n := Sum.inl.inj (List.cons.inj (List.cons.inj q).2).1; omega)), hbK_look z p n]
      have : Jm.lookN (x :: p) n = Jm.lookN p n := by unfold Jm.lookN; rw [List.find?_cons_of_neg (by simpa using h)]
      rw [this]
theorem hbK_other {z z' : Str} (hz : z ≠ z') (p : List (Nat × Nat)) (n : Int) : valV (hbK z p) [Sum.inr z', Sum.inl n] = none := by
  unfold valV hbK
  rw [List.find?_eq_none.mpr]
  · rfl
  · intro q hq e
    obtain ⟨x, hx, rfl⟩ := List.mem_map.mp hq
    have e' : ([Sum.inr z, Sum.inl (x.1 : Int)] : List Key) = [Sum.inr z', Sum.inl n] := of_decide_eq_true e
    exact hz (Sum.inr.inj (List.cons.inj e').1)
theorem flat_len : ∀ p : List (Nat × Nat), (Jm.flat p).length = 2 * p.length
  | [] => rfl
  | x :: p => by
    show (Jm.flat p).length + 1 + 1 = 2 * (p.length + 1)
    rw [flat_len p]; omega
theorem flat_get : ∀ (p : List (Nat × Nat)) (i : Nat) (x : Nat × Nat), p[i]? = some x → (Jm.flat p)[2 * i]? = some (x.1 : Int) ∧ (Jm.flat p)[2 * i + 1]? = some (x.2 : Int)
  | [], i, x, h => by simp at h
  | y :: p, 0, x, h => by
    have e : y = x := by simpa using h
    subst e
    exact ⟨rfl, rfl⟩
  | y :: p, i + 1, x, h => by
    have ih := flat_get p i x (by simpa using h)
    rw [show 2 * (i + 1) = 2 * i + 1 + 1 by omega]
    exact ih
def spByHub (K : PySem.W.Frag) : Sp := fun vs H Q _ => ∃ (z : Str) (a : Addr) (p : List (Nat × Nat)) (M : Nat), vs = [.str z, .ref a] ∧ SqL K H a ((Jm.flat p).map V.int) ∧ (Jm.flat p).length ≤ 65536 ∧ Jm.RiseOk M (-1) p ∧
  ∀ (H' : Hp) (d : Addr), Same H H' → H d = none → H' d = some (.dT (hbK z p)) → Q (.ref d) H'
structure TxtBH (mg : Str → Option Value) : Prop where
  range : mg "range" = none
  len : mg "len" = none
section
variable {P : Program} {w : World} {K : PySem.W.Frag} {mg : Str → Option Value} {base : Heap}
theorem scBy : FnScope ["word", "row", "holes", "place"] ["word", "row"] (defScope sByHub) := ⟨rfl, rfl, rfl, by decide +kernel, rfl, by decide +kernel, by decide +kernel⟩
theorem ok_byhub {f : Addr} {fd : FuncData} (F : Fun K "holes_by_hub" "holes_by_hub" sByHub f fd) (TB : TxtBH mg) : FnOk P w K mg base CX0 1 f fd ["word", "row"] (spByHub K) := by
  refine F.ok scBy (fun vs H Q E h => ?_) (fun cdv A outer s H vs Q E hr h => ?_)
  · obtain ⟨z, a, p, M, rfl, _⟩ := h
    rfl
  · obtain ⟨z, a, p, M, rfl, hS, hlen, hR, k⟩ := h
    have hu := hu_of hr
    refine ⟨_, pss_cons (ps_set (i := 2) scBy.nd rfl (Or.inl rfl) pe_dnewT)
      (pss_cons (ps_for PassesOwn.never rfl (pi_range3 (by rfl) TB.range (pa_cons pe_int (pa_cons (pe_callB call_len_seq (by rfl) TB.len PySem.boot_len (pa_cons (pv 1) pa_nil)) (pa_cons pe_int pa_nil)))) (pg_name (i := 3) scBy.nd rfl (Or.inl rfl))
        (pss_one (ps_dput hu (pv 2) (pe_tup (pa_cons (pv 0) (pa_cons (pe_ix ix_list (pv 1) (pv 3) (fun _ _ => rfl)) pa_nil))) (pe_ix ix_list (pv 1) (pe_op op_add (pv 3) pe_int) (fun _ _ => rfl)) rfl)))
      (pss_one (ps_ret (pv 2)))), ?_⟩
    refine fun d hd => ?_
    have u0 : Same H (upd H d (.dT [])) := fun c o e => by rw [upd_ne (ne_of_none e hd)]; exact e
    rw [flat_len] at hlen
    refine ⟨_, rfl, a, _, rfl, .inl (u0.seq hS), _, _, _, p.length, rfl, ?_, for_rangeC (lo := 0) (c := 2) (n := p.length) (fun i σ H' => ∃ v3 : Option V, σ = [some (.str z), some (.ref a), some (.ref d), v3] ∧ Same H H' ∧ H' d = some (.dT (hbK z (p.take i)))) ⟨none, rfl, u0, upd_same⟩ ?_ ?_⟩
    · rw [List.length_map, flat_len]
      exact range_two p.length hlen
    · rintro i σ H' hi ⟨v3, rfl, s1, hd1⟩
      obtain ⟨x, hx⟩ : ∃ x, p[i]? = some x := ⟨_, List.getElem?_eq_getElem hi⟩
      obtain ⟨g1, g2⟩ := flat_get p i x hx
      have ei : (0 : Int) + ((i : Nat) : Int) * 2 = ((2 * i : Nat) : Int) := by omega
      have ej : (0 : Int) + ((i : Nat) : Int) * 2 + 1 = ((2 * i + 1 : Nat) : Int) := by omega
      have etk : p.take (i + 1) = p.take i ++ [x] := by rw [List.take_add_one, hx]; rfl
      have hS1 := s1.seq hS
      refine ⟨_, rfl, _, rfl, _, _, rfl, rfl, a, _, _, _, rfl, rfl, hS1, at_of ej (int_get g2), _, rfl, _, rfl, _, rfl, _, rfl, a, _, _, _, rfl, rfl, hS1, at_of ei (int_get g1), (by show 2 ≤ sizeLine; decide), fun t ht => ?_⟩
      have u2 : Same H' (upd H' t (.tup [.str z, .int (x.1 : Int)])) := fun c o e => by rw [upd_ne (ne_of_none e ht)]; exact e
      have ht2 : (upd H' t (.tup [.str z, .int (x.1 : Int)])) t = some (.tup [.str z, .int (x.1 : Int)]) := upd_same
      have hl : (hbK z (p.take i)).length < sizeLine := by
        unfold hbK
        rw [List.length_map, List.length_take]
        exact Nat.lt_of_le_of_lt (show min i p.length ≤ 32768 by omega) (by decide)
      refine ⟨d, _, rfl, DPut.t (k := [Sum.inr z, Sum.inl (x.1 : Int)]) (u2 _ _ hd1) ht2 hl, ?_⟩
      have hnew : x.1 ∉ (p.take i).map Prod.fst := fun hm => by
        have hn := Jm.rise_nodup p _ hR
        rw [← List.take_append_drop i p, List.map_append, List.nodup_append] at hn
        have hxd : x.1 ∈ (p.drop i).map Prod.fst := by
          refine List.mem_map.mpr ⟨x, ?_, rfl⟩
          rw [List.drop_eq_getElem_cons hi]
          have : p[i] = x := by rw [List.getElem?_eq_getElem hi] at hx; exact Option.some.inj hx
          rw [this]; exact List.mem_cons_self
        exact hn.2.2 _ hm _ hxd rfl
      rw [putK_new _ (hbK_none hnew)]
      refine ⟨_, rfl, fun c o e => ?_, ?_⟩
      · rw [upd_ne (ne_of_none e hd)]
        exact u2 _ _ (s1 _ _ e)
      · rw [upd_same, etk]
        unfold hbK
        rw [List.map_append]
        rfl
    · rintro σ H' ⟨v3, rfl, s1, hd1⟩
      rw [List.take_length] at hd1
      exact ⟨_, rfl, k H' d s1 hd hd1⟩
end
/-! ### holes_sent -/
structure InAt (H : Hp) (d : Addr) (t : Pu.Flow) : Prop where
  ex : ∃ kvs : List (List Key × V), H d = some (.dT kvs) ∧ ∀ i k, i < 8 → (valV kvs (hkK (i, k))).getD (.int 0) = .int (t i k : Nat)
structure OutAt (H : Hp) (d : Addr) (x y : List Nat) : Prop where
  ex : ∃ kvs : List (List Key × V), H d = some (.dT kvs) ∧ (∀ n : Nat, (valV kvs [Sum.inr "read", Sum.inl (n : Int)]).getD (.int 0) = .int (x.getD n 0 : Nat)) ∧ ∀ n : Nat, (valV kvs [Sum.inr "from", Sum.inl (n : Int)]).getD (.int 0) = .int (y.getD n 0 : Nat)
theorem InAt.same {H H' : Hp} {d : Addr} {t : Pu.Flow} (h : InAt H d t) (e : Same H H') : InAt H' d t := let ⟨kvs, h1, h2⟩ := h.ex; ⟨kvs, e _ _ h1, h2⟩
theorem OutAt.same {H H' : Hp} {d : Addr} {x y : List Nat} (h : OutAt H d x y) (e : Same H H') : OutAt H' d x y := let ⟨kvs, h1, h2⟩ := h.ex; ⟨kvs, e _ _ h1, h2⟩
/-- inside.get((word, number), NOTHING) -/
theorem get_in {σ : L2.St} {H : Hp} {Q : VK} {d : Addr} {t : Pu.Flow} {i n : Nat} {z : Str} (h2 : σ[2]? = some (some (.ref d))) (h4 : σ[4]? = some (some (.int (n : Int)))) (hI : InAt H d t) (hi : i < 8) (hz : z = tW i) (q : ∀ H', Same H H' → Q (.int (t i n : Nat)) H') :
    tDGet2 (tVar 2) (tTup (tCons (tC (.str z)) (tCons (tVar 4) tNil))) (tC (.int 0)) σ H Q := by
  obtain ⟨kvs, h1, hv⟩ := hI.ex
  refine ⟨_, h2, d, rfl, .inr ⟨_, .inl h1⟩, _, h4, (by show 2 ≤ sizeLine; decide), fun p hp => ?_⟩
  subst hz
  have u : Same H (upd H p (.tup (hT (i, n)))) := fun c o e => by rw [upd_ne (ne_of_none e hp)]; exact e
  refine ⟨valV kvs (hkK (i, n)), DGet.t (k := hkK (i, n)) (u _ _ h1) upd_same, ?_⟩
  rw [hv i n hi]
  exact q _ u
theorem wd {z : Str} {j : Nat} (h : ∀ k, k < 8 → decide (sW k = z) = decide (k = j)) {k : Nat} (hk : k < 8) : decide (V.str (sW k) = V.str z) = decide (k = j) := by
  rw [← h k hk, decide_eq_decide]
  exact ⟨fun e => V.str.inj e, fun e => by rw [e]⟩
theorem ret_op_get {r : R2} {a b c tb : TE} {D : Ends} {σ : L2.St} {H : Hp} (h : tDGet2 a b c σ H fun x H1 => tb σ H1 fun y H2 => r x y H2 D.rt) : tRet (tOp r (tDGet2 a b c) tb) D σ H := h
theorem asg_op_get {r : R2} {a b c tb : TE} {g : TG} {u : TS} {D : Ends} {σ : L2.St} {H : Hp} (h : tDGet2 a b c σ H fun x H1 => tb σ H1 fun y H2 => r x y H2 fun v H3 => g v σ H3 (u D)) : tSeq (tAsg (tOp r (tDGet2 a b c) tb) g) u D σ H := h
def spSent : Sp := fun vs H Q _ => ∃ (q o i : Addr) (wr : Wire) (x y : List Nat) (t : Pu.Flow), vs = [.ref q, .ref o, .ref i] ∧ H q = some (.tup (hubSV wr)) ∧ wr.ok = true ∧ OutAt H o x y ∧ InAt H i t ∧ (∀ i k, t i k < 4096) ∧
  ∀ H' : Hp, Same H H' → Q (.int (Pu.sent x y t wr : Nat)) H'
structure TxtS (mg : Str → Option Value) (fh : Addr) : Prop where
  nothing : ∃ t, mg "NOTHING" = some (.int 0 t)
  upper : ∃ t, mg "UPPER_ROWS" = some (.int 3 t)
  lower : ∃ t, mg "LOWER_ROWS" = some (.int 4092 t)
  mh : mg "holes_of_number" = some (.ref fh)
section
variable {P : Program} {w : World} {K : PySem.W.Frag} {mg : Str → Option Value} {base : Heap}
theorem scSe : FnScope ["hub", "outside", "inside", "word", "number", "turned"] ["hub", "outside", "inside"] (defScope sSent) := ⟨rfl, rfl, rfl, by decide +kernel, rfl, by decide +kernel, by decide +kernel⟩
theorem hubS_one {wr : Wire} (h : wr.kind ≠ 5) : hubSV wr = [.str (sW wr.kind), .int (wr.n : Nat)] := by
  unfold hubSV Jm.sendNums
  rw [if_neg h]
  rfl
theorem hubS_three {wr : Wire} (h : wr.kind = 5) : hubSV wr = [.str (sW wr.kind), .int (wr.n : Nat), .int (wr.m : Nat)] := by
  unfold hubSV Jm.sendNums
  rw [if_pos h]
  rfl
theorem ok_sent {f fh : Addr} {fd fdh : FuncData} (F : Fun K "holes_sent" "holes_sent" sSent f fd) (TS : TxtS mg fh)
    (GH : FnOk P w K mg base CX0 2 fh fdh ["number"] spHoles) (bH : Binds K fdh ["number"] []) (kH : PySem.W.keepIn K (.ref fh) = true) : FnOk P w K mg base CX0 3 f fd ["hub", "outside", "inside"] spSent := by
  refine F.ok scSe (fun vs H Q E h => ?_) (fun cdv A outer s H vs Q E hr h => ?_)
  · obtain ⟨q, o, i, wr, x, y, t, rfl, _⟩ := h
    rfl
  · obtain ⟨q, o, i, wr, x, y, t, rfl, hq, hok, hO, hI, hsm, k⟩ := h
    have hu := hu_of hr
    obtain ⟨t1, e1⟩ := TS.nothing
    obtain ⟨t2, e2⟩ := TS.upper
    obtain ⟨t3, e3⟩ := TS.lower
    have hk8 := (ok_lt hok).1
    obtain ⟨rest, erest⟩ := hubS_two wr
    have hq2 := hq
    rw [erest] at hq2
    refine ⟨_, pss_cons (ps_set (i := 3) scSe.nd rfl (Or.inl rfl) (pe_ix ix_tup (pv 0) pe_int (fun _ _ => rfl)))
      (pss_cons (ps_set (i := 4) scSe.nd rfl (Or.inl rfl) (pe_ix ix_tup (pv 0) pe_int (fun _ _ => rfl)))
      (pss_cons (ps_if (pt_cmpR op_eq (pv 3) pe_str (nomark _)) (pss_one (ps_ret (pe_call GH hr (by rfl) TS.mh kH bH .nil pass0 (pa_cons (pv 4) pa_nil)))) pss_nil)
      (pss_cons (ps_if (pt_cmpR op_eq (pv 3) pe_str (nomark _)) (pss_one (ps_ret (pe_op op_and (pe_dget2 hu (pv 2) (pe_tup (pa_cons pe_str (pa_cons (pv 4) pa_nil))) (pe_glob (v := .int 0) (by rfl) e1 ⟨t1, rfl⟩) ⟨rfl, rfl, rfl, rfl⟩) (pe_glob (v := .int 3) (by rfl) e2 ⟨t2, rfl⟩)))) pss_nil)
      (pss_cons (ps_if (pt_cmpR op_eq (pv 3) pe_str (nomark _)) (pss_one (ps_ret (pe_op op_and (pe_dget2 hu (pv 2) (pe_tup (pa_cons pe_str (pa_cons (pv 4) pa_nil))) (pe_glob (v := .int 0) (by rfl) e1 ⟨t1, rfl⟩) ⟨rfl, rfl, rfl, rfl⟩) (pe_glob (v := .int 4092) (by rfl) e3 ⟨t3, rfl⟩)))) pss_nil)
      (pss_cons (ps_if (pt_cmpR op_eq (pv 3) pe_str (nomark _)) (pss_one (ps_ret (pe_op op_and (pe_dget2 hu (pv 2) (pe_tup (pa_cons pe_str (pa_cons (pv 4) pa_nil))) (pe_glob (v := .int 0) (by rfl) e1 ⟨t1, rfl⟩) ⟨rfl, rfl, rfl, rfl⟩) (pe_op op_shl pe_int (pe_ix ix_tup (pv 0) pe_int (fun _ _ => rfl)))))) pss_nil)
      (pss_cons (ps_if (pt_cmpR op_eq (pv 3) pe_str (nomark _))
        (pss_cons (ps_set (i := 5) scSe.nd rfl (Or.inl rfl) (pe_cmpR op_ne (pe_dget2 hu (pv 2) (pe_tup (pa_cons pe_str (pa_cons (pv 4) pa_nil))) (pe_glob (v := .int 0) (by rfl) e1 ⟨t1, rfl⟩) ⟨rfl, rfl, rfl, rfl⟩) (pe_glob (v := .int 0) (by rfl) e1 ⟨t1, rfl⟩) (nomark _)))
          (pss_one (ps_ret (pe_dget2 hu (pv 2) (pe_tup (pa_cons (pe_ifExp (pt_val (pv 5)) pe_str pe_str) (pa_cons (pv 4) pa_nil))) (pe_glob (v := .int 0) (by rfl) e1 ⟨t1, rfl⟩) ⟨rfl, rfl, rfl, rfl⟩)))) pss_nil)
      (pss_cons (ps_if (pt_cmpR op_eq (pv 3) pe_str (nomark _)) (pss_one (ps_ret (pe_op op_or (pe_dget2 hu (pv 2) (pe_tup (pa_cons pe_str (pa_cons (pv 4) pa_nil))) (pe_glob (v := .int 0) (by rfl) e1 ⟨t1, rfl⟩) ⟨rfl, rfl, rfl, rfl⟩) (pe_dget2 hu (pv 2) (pe_tup (pa_cons pe_str (pa_cons (pv 4) pa_nil))) (pe_glob (v := .int 0) (by rfl) e1 ⟨t1, rfl⟩) ⟨rfl, rfl, rfl, rfl⟩)))) pss_nil)
      (pss_one (ps_ret (pe_dget2 hu (pv 1) (pv 0) (pe_glob (v := .int 0) (by rfl) e1 ⟨t1, rfl⟩) ⟨rfl, rfl, rfl, rfl⟩)))))))))), ?_⟩
    have w1 := wd (z := "send") (j := 1) (by decide +kernel) hk8
    have w3 := wd (z := "upper") (j := 3) (by decide +kernel) hk8
    have w4 := wd (z := "lower") (j := 4) (by decide +kernel) hk8
    have w5 := wd (z := "hole") (j := 5) (by decide +kernel) hk8
    have w6 := wd (z := "chosen") (j := 6) (by decide +kernel) hk8
    have w7 := wd (z := "both") (j := 7) (by decide +kernel) hk8
    have z1 : ("split" : Str) = tW 1 := by decide +kernel
    have z2 : ("look" : Str) = tW 2 := by decide +kernel
    have z3 : ("by" : Str) = tW 3 := by decide +kernel
    have z4 : ("plain" : Str) = tW 4 := by decide +kernel
    have z5 : ("other" : Str) = tW 5 := by decide +kernel
    have z6 : ("one" : Str) = tW 6 := by decide +kernel
    have z7 : ("two" : Str) = tW 7 := by decide +kernel
    have fin : ∀ (r : Int) (H' : Hp), Same H H' → r = (Pu.sent x y t wr : Nat) → Q (.int r) H' := fun r H' u e => by rw [e]; exact k H' u
    refine ⟨_, rfl, q, _, _, _, rfl, rfl, SqT.of hq2, at_of (j := 0) rfl rfl, _, rfl, q, _, _, _, rfl, rfl, SqT.of hq2, at_of (j := 1) rfl rfl, ?_⟩
    refine ⟨_, rfl, rfl, _, rfl, ite2 (fun h1 => ?_) fun h1 => ?_⟩
    · have hk : wr.kind = 1 := of_decide_eq_true (w1.symm.trans h1)
      have hn : wr.n < 64 := by
        unfold Pu.Wire.ok at hok
        simp only [Bool.and_eq_true, decide_eq_true_iff] at hok
        have := hok.2.1
        rw [hk] at this
        exact this
      refine ⟨_, rfl, wr.n, rfl, hn, fin _ H (Same.refl H) ?_⟩
      unfold Pu.sent
      simp only [hk]
    refine ⟨_, rfl, rfl, _, rfl, ite2 (fun h2 => ?_) fun h2 => ?_⟩
    · have hk : wr.kind = 3 := of_decide_eq_true (w3.symm.trans h2)
      refine ret_op_get ?_
      refine get_in rfl rfl hI (by decide) z1 fun H1 u1 => ⟨_, _, rfl, rfl, fin _ H1 u1 ?_⟩
      show Builtin.bitAnd ((t 1 wr.n : Nat) : Int) ((3 : Nat) : Int) = _
      rw [band_nat, Jm.and_three]
      unfold Pu.sent
      simp only [hk]
    refine ⟨_, rfl, rfl, _, rfl, ite2 (fun h3 => ?_) fun h3 => ?_⟩
    · have hk : wr.kind = 4 := of_decide_eq_true (w4.symm.trans h3)
      refine ret_op_get ?_
      refine get_in rfl rfl hI (by decide) z1 fun H1 u1 => ⟨_, _, rfl, rfl, fin _ H1 u1 ?_⟩
      show Builtin.bitAnd ((t 1 wr.n : Nat) : Int) ((4092 : Nat) : Int) = _
      rw [band_nat, Jm.and_lower _ (hsm 1 wr.n)]
      unfold Pu.sent
      simp only [hk]
    refine ⟨_, rfl, rfl, _, rfl, ite2 (fun h4 => ?_) fun h4 => ?_⟩
    · have hk : wr.kind = 5 := of_decide_eq_true (w5.symm.trans h4)
      have hm : wr.m < 12 := by
        unfold Pu.Wire.ok at hok
        simp only [Bool.and_eq_true, decide_eq_true_iff] at hok
        have := hok.2.2.1
        rw [if_pos hk] at this
        exact of_decide_eq_true this
      refine ret_op_get ?_
      refine get_in rfl rfl hI (by decide) z2 fun H1 u1 => ⟨_, rfl, q, _, _, _, rfl, rfl, SqT.of (u1 _ _ (by rw [hubS_three hk] at hq; exact hq)), at_of (j := 2) rfl rfl, _, _, rfl, rfl, ⟨by omega, by omega, by decide⟩, _, _, rfl, rfl, fin _ H1 u1 ?_⟩
      have e : (1 : Int) * 2 ^ ((wr.m : Nat) : Int).toNat = ((2 ^ wr.m : Nat) : Int) := by
        rw [Int.toNat_natCast, Int.one_mul]
        exact (Int.natCast_pow 2 wr.m).symm
      show Builtin.bitAnd ((t 2 wr.n : Nat) : Int) ((1 : Int) * 2 ^ ((wr.m : Nat) : Int).toNat) = _
      rw [e, band_nat, Jm.and_hole]
      unfold Pu.sent
      simp only [hk]
    refine ⟨_, rfl, rfl, _, rfl, ite2 (fun h5 => ?_) fun h5 => ?_⟩
    · have hk : wr.kind = 6 := of_decide_eq_true (w6.symm.trans h5)
      refine asg_op_get ?_
      refine get_in rfl rfl hI (by decide) z3 fun H1 u1 => ⟨rfl, ?_⟩
      obtain ⟨kvs, g1, g2⟩ := (hI.same u1).ex
      have es : Pu.sent x y t wr = if t 3 wr.n ≠ 0 then t 5 wr.n else t 4 wr.n := by
        unfold Pu.sent
        simp only [hk]
      refine ⟨_, rfl, i, rfl, .inr ⟨_, .inl g1⟩, _, rfl, _, rfl, ite2 (fun h6 => ?_) fun h6 => ?_⟩
      · have hne : t 3 wr.n ≠ 0 := fun z => by
          rw [z] at h6
          exact absurd h6 (by decide)
        refine ⟨_, rfl, (by show 2 ≤ sizeLine; decide), fun p hp => ?_⟩
        rw [z5]
        have u : Same H1 (upd H1 p (.tup (hT (5, wr.n)))) := fun c o e => by rw [upd_ne (ne_of_none e hp)]; exact e
        refine ⟨valV kvs (hkK (5, wr.n)), DGet.t (k := hkK (5, wr.n)) (u _ _ g1) upd_same, ?_⟩
        rw [g2 5 wr.n (by decide)]
        exact fin _ _ (u1.trans u) (by rw [es, if_pos hne])
      · have hne : t 3 wr.n = 0 := Decidable.byContradiction fun z => h6 (by
          show (!decide (V.int ((t 3 wr.n : Nat) : Int) = V.int 0)) = true
          rw [decide_eq_false (fun q => z (by have := V.int.inj q; omega))]
          rfl)
        refine ⟨_, rfl, (by show 2 ≤ sizeLine; decide), fun p hp => ?_⟩
        rw [z4]
        have u : Same H1 (upd H1 p (.tup (hT (4, wr.n)))) := fun c o e => by rw [upd_ne (ne_of_none e hp)]; exact e
        refine ⟨valV kvs (hkK (4, wr.n)), DGet.t (k := hkK (4, wr.n)) (u _ _ g1) upd_same, ?_⟩
        rw [g2 4 wr.n (by decide)]
        exact fin _ _ (u1.trans u) (by rw [es, if_neg (fun z => z hne)])
    refine ⟨_, rfl, rfl, _, rfl, ite2 (fun h7 => ?_) fun h7 => ?_⟩
    · have hk : wr.kind = 7 := of_decide_eq_true (w7.symm.trans h7)
      refine ret_op_get ?_
      refine get_in rfl rfl hI (by decide) z6 fun H1 u1 => ?_
      refine get_in rfl rfl (hI.same u1) (by decide) z7 fun H2 u2 => ⟨_, _, rfl, rfl, fin _ H2 (u1.trans u2) ?_⟩
      show Builtin.bitOr ((t 6 wr.n : Nat) : Int) ((t 7 wr.n : Nat) : Int) = _
      rw [bor_nat]
      unfold Pu.sent
      simp only [hk]
    have n1 : wr.kind ≠ 1 := fun z => h1 (w1.trans (decide_eq_true z))
    have n3 : wr.kind ≠ 3 := fun z => h2 (w3.trans (decide_eq_true z))
    have n4 : wr.kind ≠ 4 := fun z => h3 (w4.trans (decide_eq_true z))
    have n5 : wr.kind ≠ 5 := fun z => h4 (w5.trans (decide_eq_true z))
    have n6 : wr.kind ≠ 6 := fun z => h5 (w6.trans (decide_eq_true z))
    have n7 : wr.kind ≠ 7 := fun z => h7 (w7.trans (decide_eq_true z))
    obtain ⟨kvs, g1, g2, g3⟩ := hO.ex
    have hq3 := hq
    rw [hubS_one n5] at hq3
    refine ⟨_, rfl, o, rfl, .inr ⟨_, .inl g1⟩, _, rfl, valV kvs [Sum.inr (sW wr.kind), Sum.inl (wr.n : Int)], DGet.t (k := [Sum.inr (sW wr.kind), Sum.inl (wr.n : Int)]) g1 hq3, ?_⟩
    have hk02 : wr.kind = 0 ∨ wr.kind = 2 := by omega
    have s0 : sW 0 = "read" := by decide +kernel
    have s2 : sW 2 = "from" := by decide +kernel
    rcases hk02 with hk | hk
    · rw [hk, s0, g2 wr.n]
      refine fin _ H (Same.refl H) ?_
      unfold Pu.sent
      simp only [hk]
    · rw [hk, s2, g3 wr.n]
      refine fin _ H (Same.refl H) ?_
      unfold Pu.sent
      simp only [hk]
end
end Hb
end

section
set_option Elab.async false
set_option linter.all false
set_option maxRecDepth 100000
set_option maxHeartbeats 4000000
namespace Hb
open PySem PySem.Spec PyProof.Rows L2
open Pu (Box Wire)
open Jm (Hub)
abbrev sFill : Stmt := top 29
/-! ### the hubs that are filled -/
def insK (g : Pu.Flow) (fs : List Hub) : List (List Key × V) := fs.map fun h => (hkK h, V.int (g h.1 h.2 : Nat))
def addH (fs : List Hub) (h : Hub) : List Hub := if h ∈ fs then fs else fs ++ [h]
theorem addH_mem {fs : List Hub} {h x : Hub} : x ∈ addH fs h ↔ x ∈ fs ∨ x = h := by
  unfold addH
  split
  · rename_i hm
    exact ⟨.inl, fun q => q.elim id fun q => by rw [q]; exact hm⟩
  · simp
theorem addH_nodup {fs : List Hub} {h : Hub} (hn : fs.Nodup) : (addH fs h).Nodup := by
  unfold addH
  split
  · exact hn
  · rename_i hm
    exact List.nodup_append.mpr ⟨hn, by simp, fun u hu v hv e => by rw [List.mem_singleton.mp hv] at e; exact hm (e ▸ hu)⟩
theorem insK_val {g : Pu.Flow} {fs : List Hub} {h : Hub} (h8 : h.1 < 8) (hs : ∀ x ∈ fs, x.1 < 8) : valV (insK g fs) (hkK h) = if h ∈ fs then some (.int (g h.1 h.2 : Nat)) else none := by
  induction fs with
  | nil => rfl
  | cons x fs ih =>
    have ih := ih fun z hz => hs z (List.mem_cons_of_mem _ hz)
    have e : insK g (x :: fs) = (hkK x, V.int (g x.1 x.2 : Nat)) :: insK g fs := rfl
    rw [e]
    by_cases hx : x = h
    · subst hx
      rw [valV_pos rfl, if_pos List.mem_cons_self]
    · rw [valV_neg (fun q => hx (hkK_inj (hs x List.mem_cons_self) h8 q)), ih]
      by_cases hm : h ∈ fs
      · rw [if_pos hm, if_pos (List.mem_cons_of_mem _ hm)]
      · rw [if_neg hm, if_neg (fun q => (List.mem_cons.mp q).elim (fun z => hx z.symm) hm)]
theorem insK_put {g : Pu.Flow} {fs : List Hub} {h : Hub} (h8 : h.1 < 8) (hs : ∀ x ∈ fs, x.1 < 8) : putK (insK g fs) (hkK h) (.int (g h.1 h.2 : Nat)) = insK g (addH fs h) := by
  by_cases hm : h ∈ fs
  · unfold putK addH
    rw [valV_any, insK_val h8 hs, if_pos hm, if_pos (by rfl), if_pos hm]
    unfold insK
    rw [List.map_map]
    refine List.map_congr_left fun x hx => ?_
    show (if hkK x = hkK h then _ else _) = _
    split
    · rename_i e
      have := hkK_inj (hs x hx) h8 e
      rw [this]
    · rfl
  · rw [putK_new _ (by rw [insK_val h8 hs, if_neg hm])]
    unfold addH insK
    rw [if_neg hm, List.map_append]
    rfl
/-- what the filled hubs tell -/
def tOf (g : Pu.Flow) (fs : List Hub) : Pu.Flow := fun i k => if (i, k) ∈ fs then g i k else 0
theorem insK_in {H : Hp} {d : Addr} {g : Pu.Flow} {fs : List Hub} (h : H d = some (.dT (insK g fs))) (hs : ∀ x ∈ fs, x.1 < 8) : InAt H d (tOf g fs) := by
  refine ⟨_, h, fun i k hi => ?_⟩
  rw [insK_val hi hs]
  unfold tOf
  split <;> rfl
theorem wired_lt {l : List Wire} (hok : ∀ w ∈ l, w.ok = true) {h : Hub} (hw : Jm.Wired l h) : h.1 < 8 := by
  obtain ⟨w, hw, e⟩ := hw
  rw [← e]
  exact (ok_lt (hok w hw)).2
theorem behind_lt {w : Wire} {h : Hub} (hg : h ∈ Jm.behind w) : h.1 < 8 := by
  obtain ⟨b, _, hg⟩ := Jm.mem_behind.mp hg
  have := Jm.hub_box hg
  unfold Jm.boxOf at this
  split at this
  · omega
  · split at this
    · omega
    · split at this
      · omega
      · split at this
        · omega
        · cases this
/-! ### a while whose turns are counted by what is not seen -/
theorem while_gh {c : TT} {tb : TS} {D : Ends} {σ : L2.St} {H : Hp} (W : Nat → L2.St → Hp → Prop) {m0 : Nat} (h0 : W m0 σ H)
    (hs : ∀ m σ H, W m σ H → c σ H fun b H1 => if b = true then tb { D with nx := fun σ' H' => ∃ m', m' < m ∧ W m' σ' H', ct := fun σ' H' => ∃ m', m' < m ∧ W m' σ' H', bk := D.nx } σ H1 else D.nx σ H1)
    (mono : ∀ σ H Q Q', (∀ b H1, Q b H1 → Q' b H1) → c σ H Q → c σ H Q') : tWhile c tb D σ H := by
  refine ⟨W, ⟨m0, h0⟩, ?_⟩
  intro m σ H p
  refine mono σ H _ _ (fun b H1 q => ?_) (hs m σ H p)
  cases b with
  | true => exact ⟨_, fun σ' H' z => z, q⟩
  | false => exact q
/-- the hubs that are awaited -/
def awaits (kvs : List (List Key × V)) (g : Pu.Flow) (fs : List Hub) (l : List Hub) : List Hub := l.filter fun h => (valV kvs (hkK h)).isSome && !(valV (insK g fs) (hkK h)).isSome
def spFill : Sp := fun vs H Q _ => ∃ (p o : Addr) (qs : List Addr) (ws : List Wire) (x y : List Nat), vs = [.ref p, .ref o] ∧ WiresAt H p qs ws ∧ ws.length ≤ 256 ∧ (∀ w ∈ ws, w.ok = true) ∧ Pu.faultIn_ ws = none ∧ OutAt H o x y ∧ (∀ n, x.getD n 0 < 4096) ∧ (∀ n, y.getD n 0 < 4096) ∧
  ∀ (H' : Hp) (d : Addr), Same H H' → InAt H' d (Pu.flow ws x y) → Q (.ref d) H'
structure TxtFl (mg : Str → Option Value) (fs fh ft : Addr) : Prop where
  ms : mg "senders_by_taker" = some (.ref fs)
  mh : mg "hubs_behind" = some (.ref fh)
  mt : mg "holes_sent" = some (.ref ft)
/-- where a comprehension is assigned, within a while within a for -/
def compScope3 (st : Stmt) : Scope := match defBody st with
  | [_, _, .For _ _ [_, .While _ (_ :: .Assign _ (.ListComp _ _ sc _) _ :: _) _ _] _ _, _] => sc
  | _ => { kind := .function, names := [], isGenerator := false, isCoroutine := false }
section
variable {P : Program} {w : World} {K : PySem.W.Frag} {mg : Str → Option Value} {base : Heap}
theorem scFl : FnScope ["wires", "outside", "senders", "inside", "wire", "waiting", "sender", "awaited", "taker", "hub"] ["wires", "outside"] (defScope sFill) := ⟨rfl, rfl, rfl, by decide +kernel, rfl, by decide +kernel, by decide +kernel⟩
theorem blkFl : BlkOk ["wires", "outside", "senders", "inside", "wire", "waiting", "sender", "awaited", "taker", "hub"] (defScope sFill) (compScope3 sFill) [("hub", 9)] := ⟨rfl, by decide +kernel, by decide +kernel, by decide +kernel, by decide +kernel⟩
end
end Hb
end

section
set_option Elab.async false
set_option linter.all false
set_option maxRecDepth 100000
set_option maxHeartbeats 4000000
namespace Hb
open PySem PySem.Spec PyProof.Rows L2
open Pu (Box Wire)
open Jm (Hub)
def ttFl : TT := tAnd (tB (tDIn (tVar 9) (tVar 2))) (tB (tDNotIn (tVar 9) (tVar 3)))
theorem asg_last {i : Nat} {v : V} {σ : L2.St} {H : Hp} {t : TS} {D : Ends} (h : t D (σ.set i (some v)) H) : gName i v σ H (t D) := h
theorem awaits_succ (kvs : List (List Key × V)) (g : Pu.Flow) (fs l : List Hub) (j : Nat) (y : Hub) (h : l[j]? = some y) : awaits kvs g fs (l.take (j + 1)) = if ((valV kvs (hkK y)).isSome && !(valV (insK g fs) (hkK y)).isSome) = true then awaits kvs g fs (l.take j) ++ [y] else awaits kvs g fs (l.take j) := by
  unfold awaits; rw [List.take_add_one, h, List.filter_append]
  show _ ++ List.filter _ [y] = _
  split
  · rename_i e
    rw [List.filter_cons_of_pos (by simpa using e)]
    rfl
  · rename_i e
    rw [List.filter_cons_of_neg (by simpa using e)]
    simp
theorem rev_push (aw : List Hub) (h : Hub) (gs : List (Hub × Bool)) (e : Bool) : ((((aw.reverse.map fun g => (g, false)) ++ (h, true) :: gs)).map Prod.fst).reverse = (((h, e) :: gs).map Prod.fst).reverse ++ aw := by
  rw [List.map_append, List.map_map, List.reverse_append]
  have : (aw.reverse.map (Prod.fst ∘ fun g => (g, false))) = aw.reverse := by
    conv => rhs; rw [← List.map_id aw.reverse]
    rfl
  rw [this, List.reverse_reverse]
  rfl
section
variable {P : Program} {w : World} {K : PySem.W.Frag} {mg : Str → Option Value} {base : Heap}
theorem ok_fill {f fs fh ft : Addr} {fd fds fdh fdt : FuncData} (F : Fun K "fill_hubs" "fill_hubs" sFill f fd) (TF : TxtFl mg fs fh ft)
    (GS : FnOk P w K mg base CX0 1 fs fds ["wires"] spSend) (bS : Binds K fds ["wires"] []) (kS : PySem.W.keepIn K (.ref fs) = true)
    (GH : FnOk P w K mg base CX0 2 fh fdh ["sender"] spBehind) (bH : Binds K fdh ["sender"] []) (kH : PySem.W.keepIn K (.ref fh) = true)
    (GT : FnOk P w K mg base CX0 3 ft fdt ["hub", "outside", "inside"] spSent) (bT : Binds K fdt ["hub", "outside", "inside"] []) (kT : PySem.W.keepIn K (.ref ft) = true) :
    FnOk P w K mg base CX0 4 f fd ["wires", "outside"] spFill := by
  refine F.ok scFl (fun vs H Q E h => ?_) (fun cdv A outer s H vs Q E hr h => ?_)
  · obtain ⟨p, o, qs, ws, x, y, rfl, _⟩ := h
    rfl
  · obtain ⟨p, o, qs, ws, x, y, rfl, hW, hln, hok, hsd, hO, hx, hy, k⟩ := h
    obtain ⟨hac, hone, hfl⟩ := Jm.sound_flow hln hsd hok x y
    have hsm := Jm.flow_small hac hok hfl hx hy
    generalize Pu.flow ws x y = g at hfl hsm k
    have hu := hu_of hr
    have hr1 := hr.mono (show 1 ≤ 3 by decide)
    have hr2 := hr.mono (show 2 ≤ 3 by decide)
    refine ⟨_, pss_cons (ps_set (i := 2) scFl.nd rfl (Or.inr rfl) (pe_call GS hr1 (by rfl) TF.ms kS bS .nil pass0 (pa_cons (pv 0) pa_nil)))
      (pss_cons (ps_set (i := 3) scFl.nd rfl (Or.inr rfl) pe_dnewT)
      (pss_cons (ps_for PassesOwn.never rfl (pi_list (pv 0)) (pg_name (i := 4) scFl.nd rfl (Or.inl rfl))
        (pss_cons (ps_set (i := 5) scFl.nd rfl (Or.inl rfl) (pe_lst (pa_cons (pe_ix ix_tup (pv 4) pe_int (fun _ _ => rfl)) pa_nil)))
        (pss_one (ps_while PassesOwn.never (pt_truth (pv 5) (fun _ => rfl))
          (pss_cons (ps_set (i := 6) scFl.nd rfl (Or.inl rfl) (pe_dget hu (pv 2) (pe_ix ix_list (pv 5) (pe_un un_neg pe_int) (fun _ _ => rfl)) (fun _ _ => rfl)))
          (pss_cons (ps_setLc (i := 7) (tt := ttFl) (te := tVar 9) (own := [("hub", 9)]) rfl scFl.nd rfl rfl rfl (pi_list (pe_call GH hr2 (by rfl) TF.mh kH bH .nil pass0 (pa_cons (pv 6) pa_nil))) blkFl (fun _ _ _ _ _ => pg_name (i := 9) scFl.nd rfl (Or.inl rfl))
            (fun _ _ _ _ _ => by exact pts_one (PW.pt (pw_and (pt_cmp (pc_din hu (pv 9) (pv 2)) (by with_unfolding_all rfl)) (pw_and1 (pt_cmp (pc_dnotin hu (pv 9) (pv 3)) (by with_unfolding_all rfl))))))
            (fun _ _ _ _ _ => by exact pv 9))
          (pss_one (ps_if (pt_truth (pv 7) (fun _ => rfl)) (pss_one (ps_expr (pe_bm PySem.F.plainAttrs_list PySem.F.slot_list_extend PySem.F.type_list_extend mt_extend (pv 5) (pa_cons (pv 7) pa_nil))))
            (pss_cons (ps_set (i := 8) scFl.nd rfl (Or.inl rfl) (pe_bm0 PySem.F.plainAttrs_list PySem.F.slot_list_pop PySem.F.type_list_pop mt_pop (pv 5)))
            (pss_one (ps_dput hu (pv 3) (pv 8) (pe_call GT hr (by rfl) TF.mt kT bT .nil pass0 (pa_cons (pv 6) (pa_cons (pv 1) (pa_cons (pv 3) pa_nil)))) rfl)))))))))))
      (pss_one (ps_ret (pv 3))))), ?_⟩
    refine ⟨_, rfl, p, qs, ws, rfl, hW, hln, hok, fun H1 dS u1 hdS hS => ?_⟩
    refine fun ia hia => ?_
    have u2 : Same H1 (upd H1 ia (.dT [])) := fun c o e => by rw [upd_ne (ne_of_none e hia)]; exact e
    obtain ⟨kvs, hd, hkl, hgr⟩ := hS.ex
    have frI : ∀ c o, H1 c = some o → c ≠ ia := fun c o e => ne_of_none e hia
    have hWl := u1 _ _ hW.lst
    have hO1 := hO.same u1
    obtain ⟨R, hR⟩ : ∃ R, R = 3 * (ws.length + 1) + 1 := ⟨_, rfl⟩
    refine ⟨_, rfl, p, rfl, ⟨_, SqL.of (u2 _ _ hWl)⟩, for_list (K := K) (a := p) (xs := qs.map V.ref) (fun i σ H' => ∃ (fs : List Hub) (v4 v5 v6 v7 v8 v9 : Option V), σ = [some (.ref p), some (.ref o), some (.ref dS), some (.ref ia), v4, v5, v6, v7, v8, v9] ∧ Same H1 H' ∧ H' ia = some (.dT (insK g fs)) ∧ fs.Nodup ∧ (∀ h ∈ fs, Jm.Wired ws h) ∧ ∀ w ∈ ws.take i, (w.into, w.k) ∈ fs)
      ⟨[], none, none, none, none, none, none, rfl, u2, upd_same, by simp, fun h hh => (by cases hh), fun w hw => (by cases hw)⟩ (fun i σ H' _ ⟨_, _, _, _, _, _, _, _, s1, _⟩ => SqL.of (s1 _ _ hWl)) ?_ ?_⟩
    · rintro i xv σ H' hxv ⟨fs, v4, v5, v6, v7, v8, v9, rfl, s1, hi1, hfn, hfw, hfd⟩
      obtain ⟨q, hq, rfl⟩ := ref_get hxv
      have hi : i < ws.length := by rw [← hW.len]; exact (List.getElem?_eq_some_iff.mp hq).1
      obtain ⟨w0, hw⟩ : ∃ w, ws[i]? = some w := ⟨_, List.getElem?_eq_getElem hi⟩
      obtain ⟨q1, q2, w1, w2, w3⟩ := hW.at_ i q w0 hq hw
      have hw0m := List.mem_of_getElem? hw
      have etk : ws.take (i + 1) = ws.take i ++ [w0] := by rw [List.take_add_one, hw]; rfl
      refine ⟨_, rfl, q, _, _, _, rfl, rfl, SqT.of (s1 _ _ (u1 _ _ w1)), at_of (j := 1) rfl rfl, (by show 1 ≤ sizeLine; decide), fun wd hwd => ?_⟩
      have hwd1 : H1 wd = none := s1.free hwd
      have frW : ∀ c o, H1 c = some o → c ≠ wd := fun c o e => ne_of_none e hwd1
      have nwi : wd ≠ ia := fun e => by rw [e, hi1] at hwd; cases hwd
      dsimp only
      refine asg_last ?_
      refine while_gh (fun m σ H' => ∃ (fs : List Hub) (gs : List (Hub × Bool)) (wt : List Addr) (v6 v7 v8 v9 : Option V), σ = [some (.ref p), some (.ref o), some (.ref dS), some (.ref ia), some (.ref q), some (.ref wd), v6, v7, v8, v9] ∧ Same H1 H' ∧ H' ia = some (.dT (insK g fs)) ∧ H' wd = some (.lst (wt.map V.ref)) ∧ Each hT H' wt (gs.map Prod.fst).reverse ∧ Jm.Good ws (Jm.hrk ws) R (fun h => h ∈ fs) [] gs ∧ m = Jm.wsum (Jm.hrk ws) gs ∧ fs.Nodup ∧ (∀ h ∈ fs, Jm.Wired ws h) ∧ (∀ w ∈ ws.take i, (w.into, w.k) ∈ fs) ∧ ((w0.into, w0.k) ∈ fs ∨ (w0.into, w0.k) ∈ gs.map Prod.fst))
        (m0 := Jm.wsum (Jm.hrk ws) [((w0.into, w0.k), false)]) ?_ ?_ ?_
      · refine ⟨fs, [((w0.into, w0.k), false)], [q2], v6, v7, v8, v9, rfl, fun c o e => ?_, ?_, upd_same, .one ?_, ⟨⟨w0, hw0m, rfl⟩, fun z => (by cases z), ?_, trivial⟩, rfl, hfn, hfw, hfd, .inr (by simp)⟩
        · rw [upd_ne (frW c o e)]
          exact s1 _ _ e
        · rw [upd_ne (Ne.symm nwi)]
          exact hi1
        · have z := u1 _ _ w3
          rw [upd_ne (frW _ _ z)]
          exact s1 _ _ z
        · have := Jm.hrk_le ws (w0.into, w0.k)
          show 0 + 1 + 3 * Jm.hrk ws (w0.into, w0.k) ≤ R
          omega
      · rintro m σ H' ⟨fs, gs, wt, v6, v7, v8, v9, rfl, s1, hi1, hw1, htu, hG, rfl, hfn, hfw, hfd, hcur⟩
        have hf8 : ∀ z ∈ fs, z.1 < 8 := fun z hz => wired_lt hok (hfw z hz)
        refine ⟨_, rfl, _, .inl ⟨_, SqL.of hw1, rfl⟩, ite2 (fun hne => ?_) fun hne => ?_⟩
        · have hne' : wt ≠ [] := fun e => by rw [e] at hne; exact absurd hne (by decide)
          have hgl : wt.length = gs.length := by have := htu.len; rw [List.length_reverse, List.length_map] at this; exact this
          obtain ⟨h, e, gs', rfl⟩ : ∃ h e gs', gs = (h, e) :: gs' := by
            cases gs with
            | nil => exact absurd (List.length_eq_zero_iff.mp hgl) hne'
            | cons z r => exact ⟨z.1, z.2, r, rfl⟩
          obtain ⟨wt0, t, rfl⟩ : ∃ w0 t, wt = w0 ++ [t] := (List.eq_nil_or_concat wt).resolve_left hne' |>.imp fun _ ⟨t, h⟩ => ⟨t, by rw [h, List.concat_eq_append]⟩
          have erev : (((h, e) :: gs').map Prod.fst).reverse = (gs'.map Prod.fst).reverse ++ [h] := by rw [List.map_cons, List.reverse_cons]
          have htu' := htu
          rw [erev] at htu'
          obtain ⟨htu0, htx⟩ := htu'.last
          have hwi : Jm.Wired ws h := hG.1
          have h8 : h.1 < 8 := wired_lt hok hwi
          have hlw : gs'.length + 1 ≤ R := by have := hG.2.2.1; omega
          have hat : atI ((wt0 ++ [t]).map V.ref) (-1) = some (V.ref t) := by rw [List.map_append]; exact atI_last _ _
          cases hv : valV kvs (hkK h) with
          | none => exact absurd hwi ((hgr h h8).1 hv)
          | some v =>
            obtain ⟨wr, hwr, ewr, qs1, rfl, hqs⟩ := (hgr h h8).2 v hv
            have hwrok := hok wr hwr
            have hk8 := (ok_lt hwrok).1
            refine ⟨_, rfl, _, rfl, _, rfl, wd, _, _, _, rfl, rfl, SqL.of hw1, hat, dS, _, rfl, (by rw [← hv]; exact DGet.t (k := hkK h) (s1 _ _ hd) htx), ?_⟩
            refine ⟨_, rfl, qs1, wr, rfl, s1 _ _ hqs, hk8, fun H3 lp ts u3 hlp hlx hty => ?_⟩
            have s3 := s1.trans u3
            have hi3 := u3 _ _ hi1
            have hw3 := u3 _ _ hw1
            refine ⟨lp, rfl, ⟨_, SqL.of hlx⟩, fun D hD => lc_list (K := K) (a := lp) (xs := ts.map V.ref) (fun j H4 => ∃ us : List Addr, Same H3 H4 ∧ H4 D = some (.lst (us.map V.ref)) ∧ Each hT H4 us (awaits kvs g fs ((Jm.behind wr).take j))) ?_ (fun j H4 _ ⟨_, s4, _⟩ => SqL.of (s4 _ _ hlx)) ?_ ?_⟩
            · exact ⟨[], fun c o z => by rw [upd_ne (ne_of_none z hD)]; exact z, upd_same, .nil⟩
            · rintro j yv H4 hj ⟨us, s4, hus, hE⟩
              obtain ⟨tj, htj, rfl⟩ := ref_get hj
              have hjl : j < (Jm.behind wr).length := by rw [← hty.len]; exact (List.getElem?_eq_some_iff.mp htj).1
              obtain ⟨z, hz⟩ : ∃ z, (Jm.behind wr)[j]? = some z := ⟨_, List.getElem?_eq_getElem hjl⟩
              have htjz := s4 _ _ (hty.at_ j tj z htj hz)
              have eaw := awaits_succ kvs g fs (Jm.behind wr) j z hz
              have hul : us.length ≤ 3 := by
                rw [hE.len]
                unfold awaits
                exact Nat.le_trans (List.length_filter_le ..) (Nat.le_trans (List.length_take_le' ..) (Jm.behind_len wr))
              refine ⟨rfl, ?_⟩
              refine ⟨_, rfl, _, rfl, dS, _, rfl, DGet.t (k := hkK z) (s4 _ _ (s3 _ _ hd)) htjz, _, rfl, ite2 (fun a1 => ?_) fun a1 => ?_⟩
              · refine ⟨_, rfl, _, rfl, ia, _, rfl, DGet.t (k := hkK z) (s4 _ _ hi3) htjz, _, rfl, ite2 (fun a2 => ?_) fun a2 => ?_⟩
                · refine ⟨_, rfl, us.map V.ref, hus, by rw [List.length_map]; exact Nat.lt_of_le_of_lt hul (by decide), us ++ [tj], fun c o y => ?_, ?_, ?_⟩
                  · rw [upd_ne (ne_of_none y hD)]
                    exact s4 _ _ y
                  · rw [upd_same, List.map_append]; rfl
                  · rw [eaw, if_pos (by rw [a1, Bool.true_and]; exact a2)]
                    have keep : ∀ c xs, H4 c = some (.tup xs) → (upd H4 D (.lst (us.map V.ref ++ [V.ref tj]))) c = some (.tup xs) := fun c xs y => by rw [upd_ne (ne_of y hus (by intro q; cases q))]; exact y
                    exact (hE.mono keep).snoc (keep _ _ htjz)
                · refine ⟨us, s4, hus, ?_⟩
                  rw [eaw, if_neg (by rw [a1, Bool.true_and]; exact a2)]
                  exact hE
              · refine iteF ⟨us, s4, hus, ?_⟩
                rw [eaw, if_neg (by intro y; rw [Bool.and_eq_true] at y; exact a1 y.1)]
                exact hE
            · rintro H4 ⟨us, s4, hus, hE⟩
              rw [List.length_map, hty.len, List.take_length] at hE
              have hmem : ∀ z, z ∈ awaits kvs g fs (Jm.behind wr) ↔ z ∈ Jm.behind wr ∧ Jm.Wired ws z ∧ z ∉ fs := fun z => by
                unfold awaits
                rw [List.mem_filter, Bool.and_eq_true, Bool.not_eq_true']
                constructor
                · rintro ⟨b1, b2, b3⟩
                  have z8 := behind_lt b1
                  refine ⟨b1, ?_, fun hm => ?_⟩
                  · cases y : valV kvs (hkK z) with
                    | none => rw [y] at b2; cases b2
                    | some v =>
                      obtain ⟨w', hw', e', _⟩ := (hgr z z8).2 v y
                      exact ⟨w', hw', e'⟩
                  · rw [insK_val z8 hf8, if_pos hm] at b3
                    cases b3
                · rintro ⟨b1, b2, b3⟩
                  have z8 := behind_lt b1
                  refine ⟨b1, ?_, ?_⟩
                  · cases y : valV kvs (hkK z) with
                    | none => exact absurd b2 ((hgr z z8).1 y)
                    | some v => rfl
                  · rw [insK_val z8 hf8, if_neg b3]
                    rfl
              have hlaw : (awaits kvs g fs (Jm.behind wr)).length ≤ 3 := by
                unfold awaits
                exact Nat.le_trans (List.length_filter_le ..) (Jm.behind_len wr)
              obtain ⟨aw, haw⟩ : ∃ aw, aw = awaits kvs g fs (Jm.behind wr) := ⟨_, rfl⟩
              rw [← haw] at hE hmem hlaw
              have hul := hE.len
              have s14 := s3.trans s4
              have hi4 := s4 _ _ hi3
              have hw4 := s4 _ _ hw3
              have htu4 : Each hT H4 (wt0 ++ [t]) (((h, e) :: gs').map Prod.fst).reverse := htu.mono fun c xs z => s4 _ _ (u3 _ _ z)
              have nDw : D ≠ wd := fun z => by rw [z, hw3] at hD; cases hD
              have hwl : (wt0 ++ [t]).length ≤ 772 := by
                rw [hgl]
                show gs'.length + 1 ≤ 772
                omega
              refine ⟨_, rfl, _, .inl ⟨_, SqL.of hus, rfl⟩, ite2 (fun hne2 => ?_) fun hne2 => ?_⟩
              · have hau : aw ≠ [] := fun z => by
                  rw [z] at hul
                  rw [List.length_eq_zero_iff.mp hul] at hne2
                  exact absurd hne2 (by decide)
                refine ⟨_, rfl, .inl ⟨rfl, _, SqL.of hw4⟩, _, rfl, wd, D, _, _, rfl, rfl, hw4, hus, ?_, ?_⟩
                · rw [List.length_map, List.length_map, hul]
                  exact Nat.le_trans (Nat.add_le_add hwl hlaw) (by decide)
                · have hp := hG.push hau hlaw (fun z hz => by rw [← ewr]; exact Jm.hrk_lt hac hwr ((hmem z).mp hz).1) (fun z hz => ((hmem z).mp hz).2)
                    (fun w' hw' e' z hz hzw => by
                      have ew : w' = wr := Jm.one_mem hone hw' hwr (e'.trans ewr.symm)
                      subst ew
                      by_cases hzf : z ∈ fs
                      · exact .inl hzf
                      · exact .inr ((hmem z).mpr ⟨hz, hzw, hzf⟩)) ⟨wr, hwr, ewr, fun z hz => ((hmem z).mp hz).1⟩
                  have keep : ∀ c xs, H4 c = some (.tup xs) → (upd H4 wd (.lst ((wt0 ++ [t]).map V.ref ++ us.map V.ref))) c = some (.tup xs) := fun c xs z => by rw [upd_ne (ne_of z hw4 (by intro q; cases q))]; exact z
                  refine ⟨_, hp.2, fs, _, (wt0 ++ [t]) ++ us, _, _, _, _, rfl, fun c o z => ?_, ?_, ?_, ?_, hp.1, rfl, hfn, hfw, hfd, ?_⟩
                  · rw [upd_ne (frW c o z)]
                    exact s14 _ _ z
                  · rw [upd_ne (Ne.symm nwi)]
                    exact hi4
                  · rw [upd_same, List.map_append (l₂ := us)]
                  · rw [rev_push aw h gs' e]
                    exact (htu4.mono keep).app (hE.mono keep)
                  · refine hcur.imp id fun z => ?_
                    rw [List.map_append]
                    exact List.mem_append_right _ z
              · have hau : aw = [] := by
                  refine List.length_eq_zero_iff.mp ?_
                  rw [← hul]
                  cases z : us with
                  | nil => rfl
                  | cons a r => rw [z] at hne2; exact absurd rfl hne2
                have elast : ((wt0 ++ [t]).map V.ref)[((wt0 ++ [t]).map V.ref).length - 1]? = some (V.ref t) := by simp
                have edrop : ((wt0 ++ [t]).map V.ref).dropLast = wt0.map V.ref := by simp
                refine ⟨_, rfl, .inl ⟨rfl, _, SqL.of hw4⟩, wd, _, _, rfl, rfl, hw4, elast, ?_⟩
                rw [edrop]
                have s15 : Same H1 (upd H4 wd (.lst (wt0.map V.ref))) := fun c o z => by rw [upd_ne (frW c o z)]; exact s14 _ _ z
                have hi5 : (upd H4 wd (.lst (wt0.map V.ref))) ia = some (.dT (insK g fs)) := by rw [upd_ne (Ne.symm nwi)]; exact hi4
                have hw5 : (upd H4 wd (.lst (wt0.map V.ref))) wd = some (.lst (wt0.map V.ref)) := upd_same
                have t45 : ∀ c xs, H4 c = some (.tup xs) → (upd H4 wd (.lst (wt0.map V.ref))) c = some (.tup xs) := fun c xs z => by rw [upd_ne (ne_of z hw4 (by intro q; cases q))]; exact z
                generalize upd H4 wd (.lst (wt0.map V.ref)) = H5 at s15 hi5 hw5 t45
                have htx5 : H5 t = some (.tup (hT h)) := t45 _ _ (s4 _ _ (u3 _ _ htx))
                have htu5 : Each hT H5 wt0 (gs'.map Prod.fst).reverse := htu0.mono fun c xs z => t45 _ _ (s4 _ _ (u3 _ _ z))
                have es : Pu.sent x y (tOf g fs) wr = g h.1 h.2 := by
                  have e1 : Pu.sent x y (tOf g fs) wr = Pu.sent x y g wr := by
                    refine Jm.sent_behind (by omega) fun z hz => ?_
                    unfold tOf
                    by_cases hzf : (z.1, z.2) ∈ fs
                    · rw [if_pos hzf]
                    · rw [if_neg hzf]
                      refine (hfl.bare z.1 z.2 fun w' hw' e' => ?_).symm
                      have : z ∈ aw := (hmem z).mpr ⟨hz, ⟨w', hw', Prod.ext e'.1 e'.2⟩, hzf⟩
                      rw [hau] at this
                      cases this
                  rw [e1, ← hfl.wire wr hwr, ← ewr]
                have hin := insK_in hi5 hf8
                refine ⟨_, rfl, _, rfl, _, rfl, qs1, o, ia, wr, x, y, tOf g fs, rfl, s15 _ _ hqs, hwrok, hO1.same s15, hin, fun i k => ?_, fun H6 u6 => ?_⟩
                · unfold tOf
                  split
                  · exact hsm i k
                  · decide
                · rw [es]
                  have hfl2 : (insK g fs).length < sizeLine := by
                    unfold insK
                    rw [List.length_map]
                    have := Jm.nodup_len fs (ws.map fun w => (w.into, w.k)) hfn fun z hz => by
                      obtain ⟨w', hw', e'⟩ := hfw z hz
                      exact List.mem_map.mpr ⟨w', hw', e'⟩
                    rw [List.length_map] at this
                    exact Nat.lt_of_le_of_lt (Nat.le_trans this hln) (by decide)
                  refine ⟨_, rfl, _, rfl, ia, _, rfl, DPut.t (k := hkK h) (u6 _ _ hi5) (u6 _ _ htx5) hfl2, ?_⟩
                  rw [insK_put h8 hf8]
                  have keep : ∀ c xs, H6 c = some (.tup xs) → (upd H6 ia (.dT (insK g (addH fs h)))) c = some (.tup xs) := fun c xs z => by rw [upd_ne (ne_of z (u6 _ _ hi5) (by intro q; cases q))]; exact z
                  refine ⟨_, Jm.wsum_pop _ _ _, addH fs h, gs', wt0, _, _, _, _, rfl, fun c o z => ?_, upd_same, ?_, htu5.mono fun c xs z => keep _ _ (u6 _ _ z), hG.pop (fun z hz => addH_mem.mpr (.inl hz)) (addH_mem.mpr (.inr rfl)), rfl, addH_nodup hfn, fun z hz => ?_, fun w' hw' => addH_mem.mpr (.inl (hfd w' hw')), ?_⟩
                  · rw [upd_ne (frI c o z)]
                    exact u6 _ _ (s15 _ _ z)
                  · rw [upd_ne nwi]
                    exact u6 _ _ hw5
                  · rcases addH_mem.mp hz with z' | z'
                    · exact hfw z z'
                    · rw [z']; exact hwi
                  · rcases hcur with z | z
                    · exact .inl (addH_mem.mpr (.inl z))
                    · rcases List.mem_cons.mp z with z | z
                      · exact .inl (addH_mem.mpr (.inr z))
                      · exact .inr z
        · have he : wt = [] := by
            cases z : wt with
            | nil => rfl
            | cons a r => rw [z] at hne; exact absurd rfl hne
          have hgl : wt.length = gs.length := by have := htu.len; rw [List.length_reverse, List.length_map] at this; exact this
          rw [he] at hgl
          have hgs : gs = [] := List.length_eq_zero_iff.mp hgl.symm
          refine ⟨fs, _, _, _, _, _, _, rfl, s1, hi1, hfn, hfw, fun w' hw' => ?_⟩
          rw [etk] at hw'
          rcases List.mem_append.mp hw' with z | z
          · exact hfd w' z
          · rw [List.mem_singleton.mp z]
            rcases hcur with z | z
            · exact z
            · rw [hgs] at z
              cases z
      · rintro σ H' Q1 Q2 hQ ⟨v, e, kk, h1, q⟩
        exact ⟨v, e, kk, h1, hQ _ _ q⟩
    · rintro σ H' ⟨fs, v4, v5, v6, v7, v8, v9, rfl, s1, hi1, hfn, hfw, hfd⟩
      rw [List.length_map, hW.len, List.take_length] at hfd
      have hf8 : ∀ z ∈ fs, z.1 < 8 := fun z hz => wired_lt hok (hfw z hz)
      have hin := insK_in hi1 hf8
      have et : tOf g fs = g := by
        funext i k
        unfold tOf
        by_cases hm : (i, k) ∈ fs
        · rw [if_pos hm]
        · rw [if_neg hm]
          refine (hfl.bare i k fun w' hw' e' => hm ?_).symm
          have := hfd w' hw'
          rw [e'.1, e'.2] at this
          exact this
      rw [et] at hin
      exact ⟨_, rfl, k H' ia (u1.trans s1) hin⟩
end
end Hb
end

section
set_option Elab.async false
set_option linter.all false
set_option maxRecDepth 100000
set_option maxHeartbeats 4000000
namespace Jm
open Pu
theorem flowB_ref {b : Bytes} {cs fs : List Int} {k : Flow → List Int} (h : refL b cs fs ≠ []) : flowB b cs fs k = refL b cs fs := by
  unfold flowB refL at *
  by_cases hr : refusal b = []
  · rw [if_pos hr] at h
    rw [if_pos hr, if_pos hr]
    by_cases ht : (toldB 79 (-1) cs && toldB 255 (-1) fs) = true
    · rw [if_pos ht] at h
      exact absurd rfl h
    · rw [if_neg ht]
      by_cases h1 : toldB 79 (-1) cs = true
      · have h2 : toldB 255 (-1) fs = false := by
          rw [h1, Bool.true_and] at ht
          simpa using ht
        rw [spec_no (M := 256) (l := fs) h2]
        cases specOf 80 cs <;> rfl
      · have h2 : toldB 79 (-1) cs = false := by simpa using h1
        rw [spec_no (M := 80) (l := cs) h2]
  · rw [if_neg hr, if_neg hr]
theorem flowB_ok {b : Bytes} {cs fs : List Int} (h : refL b cs fs = []) : refusal b = [] ∧ ∃ pc pf, cs = flat pc ∧ fs = flat pf ∧ RiseOk 80 (-1) pc ∧ RiseOk 256 (-1) pf ∧ ∀ k : Flow → List Int, flowB b cs fs k = k (flow (wiresOf b) (setAll 80 pc) (setAll 256 pf)) := by
  unfold refL at h
  by_cases hr : refusal b = []
  · rw [if_pos hr] at h
    by_cases ht : (toldB 79 (-1) cs && toldB 255 (-1) fs) = true
    · rw [Bool.and_eq_true] at ht
      obtain ⟨pc, e1, r1⟩ := toldB_flat (M := 80) cs (-1) (by decide) ht.1
      obtain ⟨pf, e2, r2⟩ := toldB_flat (M := 256) fs (-1) (by decide) ht.2
      refine ⟨hr, pc, pf, e1, e2, r1, r2, fun k => ?_⟩
      unfold flowB
      rw [if_pos hr, e1, e2, spec_yes r1, spec_yes r2]
    · rw [if_neg ht] at h
      cases h
  · rw [if_neg hr] at h
    exact absurd h hr
end Jm
namespace Hb
open PySem PySem.Spec PyProof.Rows L2
open Pu (Box Wire)
open Jm (Hub)
abbrev sState : Stmt := top 30
/-! ### a text that is taken: what reading it asks -/
structure Takes (b : Bytes) : Prop where
  cnt : (Pu.pieces b).length ≤ 256
  full : ∀ l ∈ Pu.pieces b, (Jm.full l).2.2 = true
  len : (Jm.wiresOf b).length ≤ 256
  ok : ∀ w ∈ Jm.wiresOf b, w.ok = true
  sound : Pu.faultIn_ (Jm.wiresOf b) = none
theorem takes_of {b : Bytes} (h : Jm.refusal b = []) : Takes b := by
  obtain ⟨_, ha, hf, _⟩ := Jm.taken_of h
  have hl := Jm.wires_len ha
  refine ⟨?_, fun l hl => ?_, hl, Jm.wires_ok ha, hf⟩
  · unfold Jm.wiresOf at hl
    rw [List.length_map] at hl
    exact hl
  · obtain ⟨j, hj⟩ := List.mem_iff_getElem?.mp hl
    exact (ha j l hj).2
/-! ### both dicts in one -/
theorem valV_app (a b : List (List Key × V)) (k : List Key) : valV (a ++ b) k = (valV a k).or (valV b k) := by
  unfold valV
  rw [List.find?_append]
  cases a.find? fun kv => decide (kv.1 = k) <;> rfl
theorem word_rf : ("read" : Str) ≠ ("from" : Str) := by decide +kernel
theorem hb_nodup {z : Str} {M : Nat} {p : List (Nat × Nat)} (h : Jm.RiseOk M (-1) p) : ((hbK z p).map (·.1)).Nodup := by
  unfold hbK
  rw [List.map_map]
  have hn := List.pairwise_map.mp (Jm.rise_nodup p _ h)
  refine List.pairwise_map.mpr (hn.imp fun hab e => hab ?_)
  have e' : ([Sum.inr z, Sum.inl _] : List Key) = [Sum.inr z, Sum.inl _] := e
  have e2 := Sum.inl.inj (List.cons.inj (List.cons.inj e').2).1
  omega
theorem nodup_by {hf : List Key → Int} {z : Str} {p : List (Nat × Nat)} (hn : (p.map Prod.fst).Nodup) (hi : ∀ x ∈ p, ∀ y ∈ p, hf [Sum.inr z, Sum.inl (x.1 : Int)] = hf [Sum.inr z, Sum.inl (y.1 : Int)] → x.1 = y.1) : ((hbK z p).map fun q => hf q.1).Nodup := by
  unfold hbK
  rw [List.map_map]
  have hn := List.pairwise_map.mp hn
  refine List.pairwise_map.mpr (hn.imp_of_mem fun {x y} hx hy hab e => hab (hi x hx y hy e))
theorem hb_hash (P : Program) (w : World) {p : List (Nat × Nat)} (h : Jm.RiseOk 256 (-1) p) : ((hbK "from" p).map fun q => tupleKeyHash (mixKind P w) q.1).Nodup :=
  nodup_by (hf := tupleKeyHash (mixKind P w)) (Jm.rise_nodup p _ h) fun x hx y hy e => key_hash P w "from" (Jm.rise_lt p _ h x hx).2.1 (Jm.rise_lt p _ h y hy).2.1 e
theorem hb_apart {pc pf : List (Nat × Nat)} (h1 : Jm.RiseOk 80 (-1) pc) (h2 : Jm.RiseOk 256 (-1) pf) : ((hbK "read" pc ++ hbK "from" pf).map (·.1)).Nodup := by
  rw [List.map_append]
  refine List.nodup_append.mpr ⟨hb_nodup h1, hb_nodup h2, fun a ha b hb e => ?_⟩
  unfold hbK at ha hb
  rw [List.map_map] at ha hb
  obtain ⟨x, _, rfl⟩ := List.mem_map.mp ha
  obtain ⟨y, _, e2⟩ := List.mem_map.mp hb
  rw [← e2] at e
  have e' : ([Sum.inr ("read" : Str), Sum.inl (x.1 : Int)] : List Key) = ([Sum.inr ("from" : Str), Sum.inl (y.1 : Int)] : List Key) := e
  exact word_rf (Sum.inr.inj (List.cons.inj e').1)
theorem out_of {H : Hp} {d : Addr} {pc pf : List (Nat × Nat)} (h1 : Jm.RiseOk 80 (-1) pc) (h2 : Jm.RiseOk 256 (-1) pf) (h : H d = some (.dT (hbK "read" pc ++ hbK "from" pf))) : OutAt H d (Jm.setAll 80 pc) (Jm.setAll 256 pf) := by
  refine ⟨_, h, fun n => ?_, fun n => ?_⟩
  · rw [valV_app, hbK_other (Ne.symm word_rf), Jm.setAll_look h1, ← hbK_look "read" pc n]
    cases valV (hbK "read" pc) [Sum.inr "read", Sum.inl (n : Int)] <;> rfl
  · rw [valV_app, hbK_other word_rf, Jm.setAll_look h2, ← hbK_look "from" pf n]
    rfl
theorem OutAt.sameT {H H' : Hp} {d : Addr} {x y : List Nat} (h : OutAt H d x y) (e : SameT H H') : OutAt H' d x y := let ⟨kvs, h1, h2⟩ := h.ex; ⟨kvs, e _ _ h1 trivial, h2⟩
theorem rise_len {M : Nat} {p : List (Nat × Nat)} (h : Jm.RiseOk M (-1) p) : p.length ≤ M := by
  have := Jm.nodup_len (p.map Prod.fst) (List.range M) (Jm.rise_nodup p _ h) fun x hx => by
    obtain ⟨z, hz, rfl⟩ := List.mem_map.mp hx
    exact List.mem_range.mpr (Jm.rise_lt p _ h z hz).2.1
  rwa [List.length_map, List.length_range] at this
def spState (K : PySem.W.Frag) (t : Tb) : Sp := fun vs H Q _ => ∃ (a c f : Addr) (b : Bytes) (pc pf : List (Nat × Nat)), vs = [.ref a, .ref c, .ref f] ∧ SqL K H a (bL b) ∧ b.length ≤ 65536 ∧ Takes b ∧ SqL K H c ((Jm.flat pc).map V.int) ∧ Jm.RiseOk 80 (-1) pc ∧ SqL K H f ((Jm.flat pf).map V.int) ∧ Jm.RiseOk 256 (-1) pf ∧ Tab t H ∧
  ∀ (H' : Hp) (d : Addr), SameT H H' → Tab t H' → InAt H' d (Pu.flow (Jm.wiresOf b) (Jm.setAll 80 pc) (Jm.setAll 256 pf)) → Q (.ref d) H'
structure TxtSt (mg : Str → Option Value) (fb ff fw fp : Addr) : Prop where
  mb : mg "holes_by_hub" = some (.ref fb)
  mf : mg "fill_hubs" = some (.ref ff)
  mw : mg "read_wires" = some (.ref fw)
  mp : mg "part_lines" = some (.ref fp)
section
variable {P : Program} {w : World} {K : PySem.W.Frag} {mg : Str → Option Value} {base : Heap}
theorem scSt : FnScope ["text", "card", "sending", "outside"] ["text", "card", "sending"] (defScope sState) := ⟨rfl, rfl, rfl, by decide +kernel, rfl, by decide +kernel, by decide +kernel⟩
theorem ok_fstate {f fb ff fw fp : Addr} {fd fdb fdf fdw fdp : FuncData} {tb : Tb} (F : Fun K "find_state" "find_state" sState f fd) (TS : TxtSt mg fb ff fw fp)
    (GB : FnOk P w K mg base CX0 1 fb fdb ["word", "row"] (spByHub K)) (bB : Binds K fdb ["word", "row"] []) (kB : PySem.W.keepIn K (.ref fb) = true)
    (GF : FnOk P w K mg base CX0 4 ff fdf ["wires", "outside"] spFill) (bF : Binds K fdf ["wires", "outside"] []) (kF : PySem.W.keepIn K (.ref ff) = true)
    (GW : FnOk P w K mg base CX0 8 fw fdw ["lines"] (spRead tb)) (bW : Binds K fdw ["lines"] []) (kW : PySem.W.keepIn K (.ref fw) = true)
    (GP : FnOk P w K mg base CX0 1 fp fdp ["text"] (spPart K)) (bP : Binds K fdp ["text"] []) (kP : PySem.W.keepIn K (.ref fp) = true) :
    FnOk P w K mg base CX0 9 f fd ["text", "card", "sending"] (spState K tb) := by
  refine F.ok scSt (fun vs H Q E h => ?_) (fun cdv A outer s H vs Q E hr h => ?_)
  · obtain ⟨a, c, f, b, pc, pf, rfl, _⟩ := h
    rfl
  · obtain ⟨a, c, f, b, pc, pf, rfl, hS, hlen, hg, hc, hrc, hf, hrf, hT, k⟩ := h
    have hu := hu_of hr
    have hr1 := hr.mono (show 1 ≤ 8 by decide)
    have hr4 := hr.mono (show 4 ≤ 8 by decide)
    have lc := rise_len hrc
    have lf := rise_len hrf
    refine ⟨_, pss_cons (ps_set (i := 3) scSt.nd rfl (Or.inl rfl) (pe_call GB hr1 (by rfl) TS.mb kB bB .nil pass0 (pa_cons pe_str (pa_cons (pv 1) pa_nil))))
      (pss_cons (ps_expr (pe_bm PySem.F.plainAttrs_dict PySem.F.slot_dict_update PySem.F.type_dict_update (mt_update hu) (pv 3) (pa_cons (pe_call GB hr1 (by rfl) TS.mb kB bB .nil pass0 (pa_cons pe_str (pa_cons (pv 2) pa_nil))) pa_nil)))
      (pss_one (ps_ret (pe_call GF hr4 (by rfl) TS.mf kF bF .nil pass0 (pa_cons (pe_call GW hr (by rfl) TS.mw kW bW .nil pass0 (pa_cons (pe_call GP hr1 (by rfl) TS.mp kP bP .nil pass0 (pa_cons (pv 0) pa_nil)) pa_nil)) (pa_cons (pv 3) pa_nil)))))), ?_⟩
    refine ⟨_, rfl, "read", c, pc, 80, rfl, hc, by rw [flat_len]; omega, hrc, fun H1 dO u1 hdO hd1 => ?_⟩
    refine ⟨_, rfl, .inr (.inr (.inl ⟨rfl, .inr ⟨_, hd1⟩⟩)), _, rfl, "from", f, pf, 256, rfl, u1.seq hf, by rw [flat_len]; omega, hrf, fun H2 dF u2 hdF hd2 => ?_⟩
    have nOF : dO ≠ dF := ne_of_none hd1 hdF
    refine ⟨dO, dF, _, _, rfl, rfl, nOF, u2 _ _ hd1, hd2, ?_, hb_apart hrc hrf, hb_hash P w hrf, ?_⟩
    · unfold hbK
      rw [List.length_map, List.length_map]
      exact Nat.le_trans (Nat.add_le_add lc lf) (by decide)
    · have s3 : Same H (upd H2 dO (.dT (hbK "read" pc ++ hbK "from" pf))) := fun d o e => by rw [upd_ne (ne_of_none e hdO)]; exact u2 _ _ (u1 _ _ e)
      have ho3 : OutAt (upd H2 dO (.dT (hbK "read" pc ++ hbK "from" pf))) dO (Jm.setAll 80 pc) (Jm.setAll 256 pf) := out_of hrc hrf upd_same
      generalize upd H2 dO (.dT (hbK "read" pc ++ hbK "from" pf)) = H3 at s3 ho3
      have hT3 := s3.tab hT
      refine ⟨_, rfl, a, b, rfl, s3.seq hS, hlen, fun H4 p as u4 hL => ?_⟩
      have hT4 := u4.tab hT3
      have hsz : ∀ l ∈ Pu.pieces b, l.length ≤ 65536 := fun l hl => Nat.le_trans (Jm.pieces_len b l hl) hlen
      refine ⟨p, as, Pu.pieces b, rfl, hL, hT4, hsz, hg.cnt, hg.full, fun H5 wq qs s5 hT5 hW => ?_⟩
      refine ⟨_, rfl, wq, dO, qs, Jm.wiresOf b, Jm.setAll 80 pc, Jm.setAll 256 pf, rfl, hW, hg.len, hg.ok, hg.sound, (ho3.same u4).sameT s5, Jm.setAll_small hrc, Jm.setAll_small hrf, fun H6 d u6 hin => ?_⟩
      exact k H6 d (((s3.t.trans u4.t).trans s5).trans u6.t) (u6.tab hT5) hin
end
end Hb
end

section
set_option Elab.async false
set_option linter.all false
set_option maxRecDepth 100000
set_option maxHeartbeats 4000000
namespace Hb
open PySem PySem.Spec PyProof.Rows L2
open Pu (Box Wire)
open Jm (Hub)
abbrev sStat : Stmt := top 31
def spStat (K : PySem.W.Frag) (t : Tb) : Sp := fun vs H Q _ => ∃ (i k : Int) (a c f : Addr) (b : Bytes) (cs fs : List Int), vs = [.int i, .int k, .ref a, .ref c, .ref f] ∧ SqL K H a (bL b) ∧ b.length ≤ 65536 ∧ SqL K H c (cs.map V.int) ∧ cs.length ≤ 65536 ∧ SqL K H f (fs.map V.int) ∧ fs.length ≤ 65536 ∧ Tab t H ∧
  ∀ (H' : Hp) (q : Addr), SameT H H' → Tab t H' → H' q = some (.lst (iL (Jm.flowB b cs fs (Jm.stateL i k)))) → Q (.ref q) H'
structure TxtSs (K : PySem.W.Frag) (mg : Str → Option Value) (aT fr ft : Addr) : Prop where
  nos : ∃ t, mg "NO_SUCH_HUB" = some (.int (-4) t)
  nothing : ∃ t, mg "NOTHING" = some (.int 0 t)
  len : mg "len" = none
  mt : mg "TAKERS" = some (.ref aT)
  kt : Kinds K aT tW Jm.tNums
  mr : mg "find_refusal_with_lists" = some (.ref fr)
  ms : mg "find_state" = some (.ref ft)
section
variable {P : Program} {w : World} {K : PySem.W.Frag} {mg : Str → Option Value} {base : Heap}
theorem scSs : FnScope ["into", "k", "text", "card", "sending", "refusal", "kind"] ["into", "k", "text", "card", "sending"] (defScope sStat) := ⟨rfl, rfl, rfl, by decide +kernel, rfl, by decide +kernel, by decide +kernel⟩
theorem take_pos (i : Nat) : 1 ≤ Pu.takeMost i := by
  unfold Pu.takeMost
  split <;> decide
theorem ok_stat {f aT fr ft : Addr} {fd fdr fdt : FuncData} {tb : Tb} (F : Fun K "state" "state" sStat f fd) (TU : TxtSs K mg aT fr ft)
    (GR : FnOk P w K mg base CX0 10 fr fdr ["text", "card", "sending"] (spRefL K tb)) (bR : Binds K fdr ["text", "card", "sending"] []) (kR : PySem.W.keepIn K (.ref fr) = true)
    (GT : FnOk P w K mg base CX0 9 ft fdt ["text", "card", "sending"] (spState K tb)) (bT : Binds K fdt ["text", "card", "sending"] []) (kT : PySem.W.keepIn K (.ref ft) = true) :
    FnOk P w K mg base CX0 11 f fd ["into", "k", "text", "card", "sending"] (spStat K tb) := by
  refine F.ok scSs (fun vs H Q E h => ?_) (fun cdv A outer s H vs Q E hr h => ?_)
  · obtain ⟨i, k, a, c, f, b, cs, fs, rfl, _⟩ := h
    rfl
  · obtain ⟨i, k, a, c, f, b, cs, fs, rfl, hS, hlen, hc, hcl, hf, hfl, hT, kk⟩ := h
    have hu := hu_of hr
    obtain ⟨t1, e1⟩ := TU.nos
    obtain ⟨t2, e2⟩ := TU.nothing
    have hr9 := hr.mono (show 9 ≤ 10 by decide)
    refine ⟨_, pss_cons (ps_set (i := 5) scSs.nd rfl (Or.inl rfl) (pe_call GR hr (by rfl) TU.mr kR bR .nil pass0 (pa_cons (pv 2) (pa_cons (pv 3) (pa_cons (pv 4) pa_nil)))))
      (pss_cons (ps_if (pt_truth (pv 5) (fun _ => rfl)) (pss_one (ps_ret (pv 5))) pss_nil)
      (pss_cons (ps_if (pt_not (pt_chain op_le op_lt pe_int (pv 0) (pe_callB call_len_seq (by rfl) TU.len PySem.boot_len (pa_cons (pe_glob (v := .ref aT) (by rfl) TU.mt rfl) pa_nil)))) (pss_one (ps_ret (pe_lst (pa_cons (pe_glob (v := .int (-4)) (by rfl) e1 ⟨t1, rfl⟩) pa_nil)))) pss_nil)
      (pss_cons (ps_set (i := 6) scSs.nd rfl (Or.inl rfl) (pe_ix ix_tup (pe_glob (v := .ref aT) (by rfl) TU.mt rfl) (pv 0) (fun _ _ => rfl)))
      (pss_cons (ps_if (pt_not (pt_chain op_le op_le pe_int (pv 1) (pe_ix ix_tup (pe_ix ix_tup (pv 6) pe_int (fun _ _ => rfl)) pe_int (fun _ _ => rfl)))) (pss_one (ps_ret (pe_lst (pa_cons (pe_glob (v := .int (-4)) (by rfl) e1 ⟨t1, rfl⟩) pa_nil)))) pss_nil)
      (pss_one (ps_ret (pe_lst (pa_cons (pe_dget2 hu (pe_call GT hr9 (by rfl) TU.ms kT bT .nil pass0 (pa_cons (pv 2) (pa_cons (pv 3) (pa_cons (pv 4) pa_nil)))) (pe_tup (pa_cons (pe_ix ix_tup (pv 6) pe_int (fun _ _ => rfl)) (pa_cons (pv 1) pa_nil))) (pe_glob (v := .int 0) (by rfl) e2 ⟨t2, rfl⟩) ⟨rfl, rfl, rfl, rfl⟩) pa_nil)))))))), ?_⟩
    refine ⟨_, rfl, _, rfl, _, rfl, a, c, f, b, cs, fs, rfl, hS, hlen, hc, hcl, hf, hfl, hT, fun H1 q s1 hT1 hq => ?_⟩
    refine ⟨_, rfl, _, .inl ⟨_, SqL.of hq, rfl⟩, ite2 (fun hne => ?_) fun hne => ?_⟩
    · have hn : Jm.refL b cs fs ≠ [] := fun z => by rw [z] at hne; exact absurd hne (by decide)
      exact ⟨_, rfl, kk H1 q s1 hT1 (by rw [Jm.flowB_ref hn]; exact hq)⟩
    · have hn : Jm.refL b cs fs = [] := by
        cases z : Jm.refL b cs fs with
        | nil => rfl
        | cons x r => rw [z] at hne; exact absurd rfl hne
      obtain ⟨hr0, pc, pf, rfl, rfl, rc, rf', hfb⟩ := Jm.flowB_ok hn
      rw [hfb (Jm.stateL i k)] at kk
      obtain ⟨ts, ns, hts, hns, hK, hKs⟩ := TU.kt.ex
      have bad : ¬ (0 ≤ i ∧ i ≤ 7 ∧ 0 ≤ k ∧ k.toNat < Pu.takeMost i.toNat) → ∀ z, H1 z = none → Q (.ref z) (upd H1 z (.lst [.int (-4)])) := fun hb z hz => by
        have u3 : Same H1 (upd H1 z (.lst [.int (-4)])) := fun d o e => by rw [upd_ne (ne_of_none e hz)]; exact e
        refine kk _ z (s1.trans u3.t) (u3.tab hT1) ?_
        rw [upd_same]
        unfold Jm.stateL
        rw [if_neg hb]
        rfl
      refine ⟨_, rfl, _, _, rfl, rfl, _, rfl, ite2 (fun h0 => ?_) fun h0 => ?_⟩
      · have h0' : 0 ≤ i := of_decide_eq_true h0
        refine ⟨aT, _, rfl, .inr hK.sq, _, _, rfl, rfl, _, rfl, ite2 (fun h1 => ?_) fun h1 => ?_⟩
        · have h1' : ¬ i < 8 := fun z => by
            rw [List.length_map, hts] at h1
            rw [decide_eq_true (show i < ((8 : Nat) : Int) from z)] at h1
            cases h1
          exact ⟨(by show 1 ≤ sizeLine; decide), bad fun z => h1' (by omega)⟩
        · have h1' : i < 8 := Decidable.byContradiction fun z => h1 (by
            rw [List.length_map, hts, decide_eq_false (show ¬ i < ((8 : Nat) : Int) from z)]
            rfl)
          obtain ⟨n, rfl⟩ : ∃ n : Nat, i = (n : Int) := ⟨i.toNat, by omega⟩
          have hn8 : n < 8 := by omega
          obtain ⟨t, ht⟩ : ∃ t, ts[n]? = some t := ⟨_, List.getElem?_eq_getElem (by omega)⟩
          obtain ⟨m, hm⟩ : ∃ m, ns[n]? = some m := ⟨_, List.getElem?_eq_getElem (by omega)⟩
          obtain ⟨g1, g2⟩ := hKs n t m ht hm
          have hpos := take_pos n
          refine ⟨_, rfl, aT, _, _, _, rfl, rfl, hK.sq, atI_nat (by rw [List.getElem?_map, ht]; rfl), ?_⟩
          refine ⟨_, rfl, _, _, rfl, rfl, _, rfl, ite2 (fun h2 => ?_) fun h2 => ?_⟩
          · have h2' : 0 ≤ k := of_decide_eq_true h2
            refine ⟨_, rfl, t, _, _, _, rfl, rfl, g1.sq, at_of (j := 1) rfl rfl, m, _, _, _, rfl, rfl, g2.sq, at_of (j := 0) rfl rfl, _, _, rfl, rfl, _, rfl, ite2 (fun h3 => ?_) fun h3 => ?_⟩
            · have h3' : ¬ k ≤ ((Pu.takeMost n - 1 : Nat) : Int) := fun z => by
                rw [decide_eq_true (show k ≤ ((Pu.takeMost n - 1 : Nat) : Int) from z)] at h3
                cases h3
              refine ⟨(by show 1 ≤ sizeLine; decide), bad fun z => h3' ?_⟩
              have z4 : k.toNat < Pu.takeMost n := z.2.2.2
              omega
            · have h3' : k ≤ ((Pu.takeMost n - 1 : Nat) : Int) := Decidable.byContradiction fun z => h3 (by
                rw [decide_eq_false (show ¬ k ≤ ((Pu.takeMost n - 1 : Nat) : Int) from z)]
                rfl)
              obtain ⟨x, rfl⟩ : ∃ x : Nat, k = (x : Int) := ⟨k.toNat, by omega⟩
              have hxt : x < Pu.takeMost n := by omega
              refine ⟨_, rfl, _, rfl, _, rfl, a, c, f, b, pc, pf, rfl, SameT.sqL s1 hS, hlen, takes_of hr0, SameT.sqL s1 hc, rc, SameT.sqL s1 hf, rf', hT1, fun H2 d s2 hT2 hin => ?_⟩
              generalize Pu.flow (Jm.wiresOf b) (Jm.setAll 80 pc) (Jm.setAll 256 pf) = g at kk hin
              obtain ⟨kvs, d1, d2⟩ := hin.ex
              refine ⟨d, rfl, .inr ⟨_, .inl d1⟩, _, rfl, t, _, _, _, rfl, rfl, g1.sq, at_of (j := 0) rfl rfl, _, rfl, (by show 2 ≤ sizeLine; decide), fun p hp => ?_⟩
              have u4 : Same H2 (upd H2 p (.tup [.str (tW n), .int (x : Int)])) := fun c o e => by rw [upd_ne (ne_of_none e hp)]; exact e
              have hp4 : (upd H2 p (.tup [.str (tW n), .int (x : Int)])) p = some (.tup (Hb.hT (n, x))) := upd_same
              generalize upd H2 p (.tup [.str (tW n), .int (x : Int)]) = H4 at u4 hp4
              refine ⟨valV kvs (hkK (n, x)), DGet.t (k := hkK (n, x)) (u4 _ _ d1) hp4, ?_⟩
              rw [d2 n x hn8]
              refine ⟨(by show 1 ≤ sizeLine; decide), fun z hz => ?_⟩
              have u5 : Same H4 (upd H4 z (.lst [.int (g n x : Nat)])) := fun c o e => by rw [upd_ne (ne_of_none e hz)]; exact e
              refine kk _ z (((s1.trans s2).trans u4.t).trans u5.t) (u5.tab (u4.tab hT2)) ?_
              rw [upd_same]
              unfold Jm.stateL
              rw [if_pos ⟨h0', by omega, h2', by simpa using hxt⟩]
              rfl
          · have h2' : ¬ 0 ≤ k := fun z => h2 (decide_eq_true z)
            exact ⟨_, rfl, iteT ⟨(by show 1 ≤ sizeLine; decide), bad fun z => h2' z.2.2.1⟩⟩
      · have h0' : ¬ 0 ≤ i := fun z => h0 (decide_eq_true z)
        exact ⟨_, rfl, iteT ⟨(by show 1 ≤ sizeLine; decide), bad fun z => h0' z.1⟩⟩
end
end Hb
end

section
set_option Elab.async false
set_option linter.all false
set_option maxRecDepth 100000
set_option maxHeartbeats 4000000
namespace Hb
open PySem PySem.Spec PyProof.Rows L2
/-! ### what the top has written -/
theorem ktup_mk {K : PySem.W.Frag} {a : Addr} {d : Option Addr} {its : List Value} {n : Nat} {sl : Array (Option Value)} {xs : List V} (l : K.lookup a = some ⟨.type "tuple", d, .seq its.toArray n, sl⟩) (hl : its.length ≤ 1000) (v : Vals xs its) : KTup K a xs :=
  ⟨_, _, _, l, rfl, rfl, Nat.le_of_lt (small1000 (by simpa using hl)), by simpa using v⟩
theorem kdict_mk {w : World} {K : PySem.W.Frag} {a : Addr} {es : List DictEntry} {n : Nat} (l : K.lookup a = some ⟨.type "dict", none, .dict es.toArray n, #[]⟩) (hk : PySem.W.KeysLit w.params es)
    (hp : Paired (fun (p : Str × Str) (e : DictEntry) => ∃ t u, e.key = .str p.1 t ∧ e.val = .str p.2 u) bkPairs es) (lo : (a == sysModules) = false) : KDict w K a bkF := by
  refine ⟨⟨_, _, l, by simpa using hk, fun x => ?_⟩, lo⟩
  have h := find_pairs (x := x) hp
  unfold findBy
  rw [← Array.find?_toList]
  simpa [bkF] using h


theorem kinds_s {K : PySem.W.Frag} {a t0 n0 t1 n1 t2 n2 t3 n3 t4 n4 t5 n5 t6 n6 t7 n7 : Addr} {d d0 e0 d1 e1 d2 e2 d3 e3 d4 e4 d5 e5 d6 e6 d7 e7 : Option Addr} {m m0 q0 m1 q1 m2 q2 m3 q3 m4 q4 m5 q5 m6 q6 m7 q7 : Nat} {sl sl0 sm0 sl1 sm1 sl2 sm2 sl3 sm3 sl4 sm4 sl5 sm5 sl6 sm6 sl7 sm7 : Array (Option Value)} {u0 v0 u1 v1 u2 v2 u3 v3 u4 v4 u5 v5 u6 v6 u7 v7 x5 : Tok}
    (l : K.lookup a = some ⟨.type "tuple", d, .seq (List.toArray [.ref t0, .ref t1, .ref t2, .ref t3, .ref t4, .ref t5, .ref t6, .ref t7]) m, sl⟩)
    (l0 : K.lookup t0 = some ⟨.type "tuple", d0, .seq (List.toArray [.str "read" u0, .ref n0]) m0, sl0⟩) (i0 : K.lookup n0 = some ⟨.type "tuple", e0, .seq (List.toArray [.int 79 v0]) q0, sm0⟩)
    (l1 : K.lookup t1 = some ⟨.type "tuple", d1, .seq (List.toArray [.str "send" u1, .ref n1]) m1, sl1⟩) (i1 : K.lookup n1 = some ⟨.type "tuple", e1, .seq (List.toArray [.int 63 v1]) q1, sm1⟩)
    (l2 : K.lookup t2 = some ⟨.type "tuple", d2, .seq (List.toArray [.str "from" u2, .ref n2]) m2, sl2⟩) (i2 : K.lookup n2 = some ⟨.type "tuple", e2, .seq (List.toArray [.int 255 v2]) q2, sm2⟩)
    (l3 : K.lookup t3 = some ⟨.type "tuple", d3, .seq (List.toArray [.str "upper" u3, .ref n3]) m3, sl3⟩) (i3 : K.lookup n3 = some ⟨.type "tuple", e3, .seq (List.toArray [.int 63 v3]) q3, sm3⟩)
    (l4 : K.lookup t4 = some ⟨.type "tuple", d4, .seq (List.toArray [.str "lower" u4, .ref n4]) m4, sl4⟩) (i4 : K.lookup n4 = some ⟨.type "tuple", e4, .seq (List.toArray [.int 63 v4]) q4, sm4⟩)
    (l5 : K.lookup t5 = some ⟨.type "tuple", d5, .seq (List.toArray [.str "hole" u5, .ref n5]) m5, sl5⟩) (i5 : K.lookup n5 = some ⟨.type "tuple", e5, .seq (List.toArray [.int 63 v5, .int 11 x5]) q5, sm5⟩)
    (l6 : K.lookup t6 = some ⟨.type "tuple", d6, .seq (List.toArray [.str "chosen" u6, .ref n6]) m6, sl6⟩) (i6 : K.lookup n6 = some ⟨.type "tuple", e6, .seq (List.toArray [.int 63 v6]) q6, sm6⟩)
    (l7 : K.lookup t7 = some ⟨.type "tuple", d7, .seq (List.toArray [.str "both" u7, .ref n7]) m7, sl7⟩) (i7 : K.lookup n7 = some ⟨.type "tuple", e7, .seq (List.toArray [.int 63 v7]) q7, sm7⟩)
    : Kinds K a sW Jm.sNums := by
  refine ⟨⟨[t0, t1, t2, t3, t4, t5, t6, t7], [n0, n1, n2, n3, n4, n5, n6, n7], rfl, rfl, ktup_mk l (by simp) (.cons rfl (.cons rfl (.cons rfl (.cons rfl (.cons rfl (.cons rfl (.cons rfl (.cons rfl .nil)))))))), fun k t n h1 h2 => ?_⟩, by unfold Plain; decide +kernel, by decide +kernel, by decide +kernel⟩
  match k, h1, h2 with
  | 0, h1, h2 =>
    cases h1
    cases h2
    exact ⟨ktup_mk l0 (by simp) (.cons ⟨_, rfl⟩ (.cons rfl .nil)), ktup_mk i0 (by simp) (.cons ⟨_, rfl⟩ .nil)⟩
  | 1, h1, h2 =>
    cases h1
    cases h2
    exact ⟨ktup_mk l1 (by simp) (.cons ⟨_, rfl⟩ (.cons rfl .nil)), ktup_mk i1 (by simp) (.cons ⟨_, rfl⟩ .nil)⟩
  | 2, h1, h2 =>
    cases h1
    cases h2
    exact ⟨ktup_mk l2 (by simp) (.cons ⟨_, rfl⟩ (.cons rfl .nil)), ktup_mk i2 (by simp) (.cons ⟨_, rfl⟩ .nil)⟩
  | 3, h1, h2 =>
    cases h1
    cases h2
    exact ⟨ktup_mk l3 (by simp) (.cons ⟨_, rfl⟩ (.cons rfl .nil)), ktup_mk i3 (by simp) (.cons ⟨_, rfl⟩ .nil)⟩
  | 4, h1, h2 =>
    cases h1
    cases h2
    exact ⟨ktup_mk l4 (by simp) (.cons ⟨_, rfl⟩ (.cons rfl .nil)), ktup_mk i4 (by simp) (.cons ⟨_, rfl⟩ .nil)⟩
  | 5, h1, h2 =>
    cases h1
    cases h2
    exact ⟨ktup_mk l5 (by simp) (.cons ⟨_, rfl⟩ (.cons rfl .nil)), ktup_mk i5 (by simp) (.cons ⟨_, rfl⟩ (.cons ⟨_, rfl⟩ .nil))⟩
  | 6, h1, h2 =>
    cases h1
    cases h2
    exact ⟨ktup_mk l6 (by simp) (.cons ⟨_, rfl⟩ (.cons rfl .nil)), ktup_mk i6 (by simp) (.cons ⟨_, rfl⟩ .nil)⟩
  | 7, h1, h2 =>
    cases h1
    cases h2
    exact ⟨ktup_mk l7 (by simp) (.cons ⟨_, rfl⟩ (.cons rfl .nil)), ktup_mk i7 (by simp) (.cons ⟨_, rfl⟩ .nil)⟩
  | k + 8, h1, _ => simp at h1
theorem kinds_t {K : PySem.W.Frag} {a t0 n0 t1 n1 t2 n2 t3 n3 t4 n4 t5 n5 t6 n6 t7 n7 : Addr} {d d0 e0 d1 e1 d2 e2 d3 e3 d4 e4 d5 e5 d6 e6 d7 e7 : Option Addr} {m m0 q0 m1 q1 m2 q2 m3 q3 m4 q4 m5 q5 m6 q6 m7 q7 : Nat} {sl sl0 sm0 sl1 sm1 sl2 sm2 sl3 sm3 sl4 sm4 sl5 sm5 sl6 sm6 sl7 sm7 : Array (Option Value)} {u0 v0 u1 v1 u2 v2 u3 v3 u4 v4 u5 v5 u6 v6 u7 v7 : Tok}
    (l : K.lookup a = some ⟨.type "tuple", d, .seq (List.toArray [.ref t0, .ref t1, .ref t2, .ref t3, .ref t4, .ref t5, .ref t6, .ref t7]) m, sl⟩)
    (l0 : K.lookup t0 = some ⟨.type "tuple", d0, .seq (List.toArray [.str "to" u0, .ref n0]) m0, sl0⟩) (i0 : K.lookup n0 = some ⟨.type "tuple", e0, .seq (List.toArray [.int 255 v0]) q0, sm0⟩)
    (l1 : K.lookup t1 = some ⟨.type "tuple", d1, .seq (List.toArray [.str "split" u1, .ref n1]) m1, sl1⟩) (i1 : K.lookup n1 = some ⟨.type "tuple", e1, .seq (List.toArray [.int 63 v1]) q1, sm1⟩)
    (l2 : K.lookup t2 = some ⟨.type "tuple", d2, .seq (List.toArray [.str "look" u2, .ref n2]) m2, sl2⟩) (i2 : K.lookup n2 = some ⟨.type "tuple", e2, .seq (List.toArray [.int 63 v2]) q2, sm2⟩)
    (l3 : K.lookup t3 = some ⟨.type "tuple", d3, .seq (List.toArray [.str "by" u3, .ref n3]) m3, sl3⟩) (i3 : K.lookup n3 = some ⟨.type "tuple", e3, .seq (List.toArray [.int 63 v3]) q3, sm3⟩)
    (l4 : K.lookup t4 = some ⟨.type "tuple", d4, .seq (List.toArray [.str "plain" u4, .ref n4]) m4, sl4⟩) (i4 : K.lookup n4 = some ⟨.type "tuple", e4, .seq (List.toArray [.int 63 v4]) q4, sm4⟩)
    (l5 : K.lookup t5 = some ⟨.type "tuple", d5, .seq (List.toArray [.str "other" u5, .ref n5]) m5, sl5⟩) (i5 : K.lookup n5 = some ⟨.type "tuple", e5, .seq (List.toArray [.int 63 v5]) q5, sm5⟩)
    (l6 : K.lookup t6 = some ⟨.type "tuple", d6, .seq (List.toArray [.str "one" u6, .ref n6]) m6, sl6⟩) (i6 : K.lookup n6 = some ⟨.type "tuple", e6, .seq (List.toArray [.int 63 v6]) q6, sm6⟩)
    (l7 : K.lookup t7 = some ⟨.type "tuple", d7, .seq (List.toArray [.str "two" u7, .ref n7]) m7, sl7⟩) (i7 : K.lookup n7 = some ⟨.type "tuple", e7, .seq (List.toArray [.int 63 v7]) q7, sm7⟩)
    : Kinds K a tW Jm.tNums := by
  refine ⟨⟨[t0, t1, t2, t3, t4, t5, t6, t7], [n0, n1, n2, n3, n4, n5, n6, n7], rfl, rfl, ktup_mk l (by simp) (.cons rfl (.cons rfl (.cons rfl (.cons rfl (.cons rfl (.cons rfl (.cons rfl (.cons rfl .nil)))))))), fun k t n h1 h2 => ?_⟩, by unfold Plain; decide +kernel, by decide +kernel, by decide +kernel⟩
  match k, h1, h2 with
  | 0, h1, h2 =>
    cases h1
    cases h2
    exact ⟨ktup_mk l0 (by simp) (.cons ⟨_, rfl⟩ (.cons rfl .nil)), ktup_mk i0 (by simp) (.cons ⟨_, rfl⟩ .nil)⟩
  | 1, h1, h2 =>
    cases h1
    cases h2
    exact ⟨ktup_mk l1 (by simp) (.cons ⟨_, rfl⟩ (.cons rfl .nil)), ktup_mk i1 (by simp) (.cons ⟨_, rfl⟩ .nil)⟩
  | 2, h1, h2 =>
    cases h1
    cases h2
    exact ⟨ktup_mk l2 (by simp) (.cons ⟨_, rfl⟩ (.cons rfl .nil)), ktup_mk i2 (by simp) (.cons ⟨_, rfl⟩ .nil)⟩
  | 3, h1, h2 =>
    cases h1
    cases h2
    exact ⟨ktup_mk l3 (by simp) (.cons ⟨_, rfl⟩ (.cons rfl .nil)), ktup_mk i3 (by simp) (.cons ⟨_, rfl⟩ .nil)⟩
  | 4, h1, h2 =>
    cases h1
    cases h2
    exact ⟨ktup_mk l4 (by simp) (.cons ⟨_, rfl⟩ (.cons rfl .nil)), ktup_mk i4 (by simp) (.cons ⟨_, rfl⟩ .nil)⟩
  | 5, h1, h2 =>
    cases h1
    cases h2
    exact ⟨ktup_mk l5 (by simp) (.cons ⟨_, rfl⟩ (.cons rfl .nil)), ktup_mk i5 (by simp) (.cons ⟨_, rfl⟩ .nil)⟩
  | 6, h1, h2 =>
    cases h1
    cases h2
    exact ⟨ktup_mk l6 (by simp) (.cons ⟨_, rfl⟩ (.cons rfl .nil)), ktup_mk i6 (by simp) (.cons ⟨_, rfl⟩ .nil)⟩
  | 7, h1, h2 =>
    cases h1
    cases h2
    exact ⟨ktup_mk l7 (by simp) (.cons ⟨_, rfl⟩ (.cons rfl .nil)), ktup_mk i7 (by simp) (.cons ⟨_, rfl⟩ .nil)⟩
  | k + 8, h1, _ => simp at h1
theorem all_mk {P : Program} {w : World} {K : PySem.W.Frag} {h : Heap} {mg : Str → Option Value} {tb : Tb} {fa C aS aT aB c0 f1 f2 f3 f4 f5 f6 f7 f11 f12 f13 f14 f15 f16 f17 f19 f20 f22 f23 f24 f25 f26 f27 f28 f29 f18 : Addr} (X : K.In h) (G : h.Ns mainGlobals mg) (hfa : mg "state" = some (.ref fa))
    {od1 an1 od2 an2 od3 an3 od4 an4 od5 an5 od6 an6 od7 an7 od11 an11 od12 an12 od13 an13 od14 an14 od15 an15 od16 an16 od17 an17 od19 an19 od20 an20 od22 an22 od23 an23 od24 an24 od25 an25 od26 an26 od27 an27 od28 an28 od29 an29 od18 an18 : Option Addr} {sl1 sl2 sl3 sl4 sl5 sl6 sl7 sl11 sl12 sl13 sl14 sl15 sl16 sl17 sl19 sl20 sl22 sl23 sl24 sl25 sl26 sl27 sl28 sl29 sl18 : Array (Option Value)} {oc1 kV1 dc1 pm1 ct1 cd1 oc2 kV2 dc2 pm2 ct2 cd2 oc3 kV3 dc3 pm3 ct3 cd3 oc4 kV4 dc4 pm4 ct4 cd4 oc5 kV5 dc5 pm5 ct5 cd5 oc6 kV6 dc6 pm6 ct6 oc7 kV7 dc7 pm7 ct7 cd7 oc11 kV11 dc11 pm11 ct11 cd11 oc12 kV12 dc12 pm12 ct12 cd12 oc13 kV13 dc13 pm13 ct13 cd13 oc14 kV14 dc14 pm14 ct14 cd14 oc15 kV15 dc15 pm15 ct15 cd15 oc16 kV16 dc16 pm16 ct16 cd16 oc17 kV17 dc17 pm17 ct17 cd17 oc19 kV19 dc19 pm19 ct19 cd19 oc20 kV20 dc20 pm20 ct20 cd20 oc22 kV22 dc22 pm22 ct22 cd22 oc23 kV23 dc23 pm23 ct23 cd23 oc24 kV24 dc24 pm24 ct24 cd24 oc25 kV25 dc25 pm25 ct25 cd25 oc26 kV26 dc26 pm26 ct26 cd26 oc27 kV27 dc27 pm27 ct27 cd27 oc28 kV28 dc28 pm28 ct28 cd28 oc29 kV29 dc29 pm29 ct29 cd29 oc18 kV18 dc18 pm18 ct18 cd18 : Value} {y0 y1 y2 y3 y4 y5 y6 y7 y8 y9 y10 y11 y12 y13 y14 y15 y16 : Tok} {es : List DictEntry} {nB : Nat}
    (aC : PySem.W.nsIn K mainGlobals "LineReader" = some (some (.ref C)))
    (a1 : PySem.W.findIn K (.ref C) "__init__" = some (some (.ref f1)))
    (i1 : PySem.W.isFn K (.ref f1) = true)
    (l1 : K.lookup f1 = some ⟨oc1, od1, .func (PySem.W.fnOf "__init__" "LineReader.__init__" (defArgs sInit) (defBody sInit) (defScope sInit) .none kV1 dc1 pm1 an1 cd1 ct1), sl1⟩)
    (c1 : PySem.W.codeIn K cd1 "LineReader.__init__" = true)
    (k1 : PySem.W.keepIn K (.ref f1) = true)
    (a2 : PySem.W.findIn K (.ref C) "count_shared" = some (some (.ref f2)))
    (i2 : PySem.W.isFn K (.ref f2) = true)
    (l2 : K.lookup f2 = some ⟨oc2, od2, .func (PySem.W.fnOf "count_shared" "LineReader.count_shared" (defArgs sCount) (defBody sCount) (defScope sCount) .none kV2 dc2 pm2 an2 cd2 ct2), sl2⟩)
    (c2 : PySem.W.codeIn K cd2 "LineReader.count_shared" = true)
    (k2 : PySem.W.keepIn K (.ref f2) = true)
    (a3 : PySem.W.findIn K (.ref C) "read_signs" = some (some (.ref f3)))
    (i3 : PySem.W.isFn K (.ref f3) = true)
    (l3 : K.lookup f3 = some ⟨oc3, od3, .func (PySem.W.fnOf "read_signs" "LineReader.read_signs" (defArgs sSigns) (defBody sSigns) (defScope sSigns) .none kV3 dc3 pm3 an3 cd3 ct3), sl3⟩)
    (c3 : PySem.W.codeIn K cd3 "LineReader.read_signs" = true)
    (k3 : PySem.W.keepIn K (.ref f3) = true)
    (a4 : PySem.W.findIn K (.ref C) "figure_ahead" = some (some (.ref f4)))
    (i4 : PySem.W.isFn K (.ref f4) = true)
    (l4 : K.lookup f4 = some ⟨oc4, od4, .func (PySem.W.fnOf "figure_ahead" "LineReader.figure_ahead" (defArgs sFig) (defBody sFig) (defScope sFig) .none kV4 dc4 pm4 an4 cd4 ct4), sl4⟩)
    (c4 : PySem.W.codeIn K cd4 "LineReader.figure_ahead" = true)
    (k4 : PySem.W.keepIn K (.ref f4) = true)
    (a5 : PySem.W.findIn K (.ref C) "read_number" = some (some (.ref f5)))
    (i5 : PySem.W.isFn K (.ref f5) = true)
    (l5 : K.lookup f5 = some ⟨oc5, od5, .func (PySem.W.fnOf "read_number" "LineReader.read_number" (defArgs sNum) (defBody sNum) (defScope sNum) .none kV5 dc5 pm5 an5 cd5 ct5), sl5⟩)
    (c5 : PySem.W.codeIn K cd5 "LineReader.read_number" = true)
    (k5 : PySem.W.keepIn K (.ref f5) = true)
    (a6 : PySem.W.findIn K (.ref C) "read_hub" = some (some (.ref f6)))
    (i6 : PySem.W.isFn K (.ref f6) = true)
    (l6 : K.lookup f6 = some ⟨oc6, od6, .func (PySem.W.fnOf "read_hub" "LineReader.read_hub" (defArgs sHub) (defBody sHub) (defScope sHub) .none kV6 dc6 pm6 an6 (.ref c0) ct6), sl6⟩)
    (c6 : PySem.W.codeIn K (.ref c0) "LineReader.read_hub" = true)
    (k6 : PySem.W.keepIn K (.ref f6) = true)
    (a7 : PySem.W.findIn K (.ref C) "read_wire" = some (some (.ref f7)))
    (i7 : PySem.W.isFn K (.ref f7) = true)
    (l7 : K.lookup f7 = some ⟨oc7, od7, .func (PySem.W.fnOf "read_wire" "LineReader.read_wire" (defArgs sWire) (defBody sWire) (defScope sWire) .none kV7 dc7 pm7 an7 cd7 ct7), sl7⟩)
    (c7 : PySem.W.codeIn K cd7 "LineReader.read_wire" = true)
    (k7 : PySem.W.keepIn K (.ref f7) = true)
    (a11 : PySem.W.nsIn K mainGlobals "part_lines" = some (some (.ref f11)))
    (l11 : K.lookup f11 = some ⟨oc11, od11, .func (PySem.W.fnOf "part_lines" "part_lines" (defArgs sPart) (defBody sPart) (defScope sPart) .none kV11 dc11 pm11 an11 cd11 ct11), sl11⟩)
    (c11 : PySem.W.codeIn K cd11 "part_lines" = true)
    (k11 : PySem.W.keepIn K (.ref f11) = true)
    (a12 : PySem.W.nsIn K mainGlobals "read_wires" = some (some (.ref f12)))
    (l12 : K.lookup f12 = some ⟨oc12, od12, .func (PySem.W.fnOf "read_wires" "read_wires" (defArgs sRead) (defBody sRead) (defScope sRead) .none kV12 dc12 pm12 an12 cd12 ct12), sl12⟩)
    (c12 : PySem.W.codeIn K cd12 "read_wires" = true)
    (k12 : PySem.W.keepIn K (.ref f12) = true)
    (a13 : PySem.W.nsIn K mainGlobals "find_line_fault" = some (some (.ref f13)))
    (l13 : K.lookup f13 = some ⟨oc13, od13, .func (PySem.W.fnOf "find_line_fault" "find_line_fault" (defArgs sLine) (defBody sLine) (defScope sLine) .none kV13 dc13 pm13 an13 cd13 ct13), sl13⟩)
    (c13 : PySem.W.codeIn K cd13 "find_line_fault" = true)
    (k13 : PySem.W.keepIn K (.ref f13) = true)
    (a14 : PySem.W.nsIn K mainGlobals "box_of" = some (some (.ref f14)))
    (l14 : K.lookup f14 = some ⟨oc14, od14, .func (PySem.W.fnOf "box_of" "box_of" (defArgs sBox) (defBody sBox) (defScope sBox) .none kV14 dc14 pm14 an14 cd14 ct14), sl14⟩)
    (c14 : PySem.W.codeIn K cd14 "box_of" = true)
    (k14 : PySem.W.keepIn K (.ref f14) = true)
    (a15 : PySem.W.nsIn K mainGlobals "comes_to" = some (some (.ref f15)))
    (l15 : K.lookup f15 = some ⟨oc15, od15, .func (PySem.W.fnOf "comes_to" "comes_to" (defArgs sCome) (defBody sCome) (defScope sCome) .none kV15 dc15 pm15 an15 cd15 ct15), sl15⟩)
    (c15 : PySem.W.codeIn K cd15 "comes_to" = true)
    (k15 : PySem.W.keepIn K (.ref f15) = true)
    (a16 : PySem.W.nsIn K mainGlobals "find_wire_fault" = some (some (.ref f16)))
    (l16 : K.lookup f16 = some ⟨oc16, od16, .func (PySem.W.fnOf "find_wire_fault" "find_wire_fault" (defArgs sFault) (defBody sFault) (defScope sFault) .none kV16 dc16 pm16 an16 cd16 ct16), sl16⟩)
    (c16 : PySem.W.codeIn K cd16 "find_wire_fault" = true)
    (k16 : PySem.W.keepIn K (.ref f16) = true)
    (a17 : PySem.W.nsIn K mainGlobals "find_refusal" = some (some (.ref f17)))
    (l17 : K.lookup f17 = some ⟨oc17, od17, .func (PySem.W.fnOf "find_refusal" "find_refusal" (defArgs sRef) (defBody sRef) (defScope sRef) .none kV17 dc17 pm17 an17 cd17 ct17), sl17⟩)
    (c17 : PySem.W.codeIn K cd17 "find_refusal" = true)
    (k17 : PySem.W.keepIn K (.ref f17) = true)
    (a19 : PySem.W.nsIn K mainGlobals "hubs_behind" = some (some (.ref f19)))
    (l19 : K.lookup f19 = some ⟨oc19, od19, .func (PySem.W.fnOf "hubs_behind" "hubs_behind" (defArgs sBehind) (defBody sBehind) (defScope sBehind) .none kV19 dc19 pm19 an19 cd19 ct19), sl19⟩)
    (c19 : PySem.W.codeIn K cd19 "hubs_behind" = true)
    (k19 : PySem.W.keepIn K (.ref f19) = true)
    (a20 : PySem.W.nsIn K mainGlobals "senders_by_taker" = some (some (.ref f20)))
    (l20 : K.lookup f20 = some ⟨oc20, od20, .func (PySem.W.fnOf "senders_by_taker" "senders_by_taker" (defArgs sSend) (defBody sSend) (defScope sSend) .none kV20 dc20 pm20 an20 cd20 ct20), sl20⟩)
    (c20 : PySem.W.codeIn K cd20 "senders_by_taker" = true)
    (k20 : PySem.W.keepIn K (.ref f20) = true)
    (a22 : PySem.W.nsIn K mainGlobals "is_told" = some (some (.ref f22)))
    (l22 : K.lookup f22 = some ⟨oc22, od22, .func (PySem.W.fnOf "is_told" "is_told" (defArgs sTold) (defBody sTold) (defScope sTold) .none kV22 dc22 pm22 an22 cd22 ct22), sl22⟩)
    (c22 : PySem.W.codeIn K cd22 "is_told" = true)
    (k22 : PySem.W.keepIn K (.ref f22) = true)
    (a23 : PySem.W.nsIn K mainGlobals "find_refusal_with_lists" = some (some (.ref f23)))
    (l23 : K.lookup f23 = some ⟨oc23, od23, .func (PySem.W.fnOf "find_refusal_with_lists" "find_refusal_with_lists" (defArgs sRefL) (defBody sRefL) (defScope sRefL) .none kV23 dc23 pm23 an23 cd23 ct23), sl23⟩)
    (c23 : PySem.W.codeIn K cd23 "find_refusal_with_lists" = true)
    (k23 : PySem.W.keepIn K (.ref f23) = true)
    (a24 : PySem.W.nsIn K mainGlobals "hole_of_figure" = some (some (.ref f24)))
    (l24 : K.lookup f24 = some ⟨oc24, od24, .func (PySem.W.fnOf "hole_of_figure" "hole_of_figure" (defArgs sFigH) (defBody sFigH) (defScope sFigH) .none kV24 dc24 pm24 an24 cd24 ct24), sl24⟩)
    (c24 : PySem.W.codeIn K cd24 "hole_of_figure" = true)
    (k24 : PySem.W.keepIn K (.ref f24) = true)
    (a25 : PySem.W.nsIn K mainGlobals "holes_of_number" = some (some (.ref f25)))
    (l25 : K.lookup f25 = some ⟨oc25, od25, .func (PySem.W.fnOf "holes_of_number" "holes_of_number" (defArgs sHoles) (defBody sHoles) (defScope sHoles) .none kV25 dc25 pm25 an25 cd25 ct25), sl25⟩)
    (c25 : PySem.W.codeIn K cd25 "holes_of_number" = true)
    (k25 : PySem.W.keepIn K (.ref f25) = true)
    (a26 : PySem.W.nsIn K mainGlobals "holes_by_hub" = some (some (.ref f26)))
    (l26 : K.lookup f26 = some ⟨oc26, od26, .func (PySem.W.fnOf "holes_by_hub" "holes_by_hub" (defArgs sByHub) (defBody sByHub) (defScope sByHub) .none kV26 dc26 pm26 an26 cd26 ct26), sl26⟩)
    (c26 : PySem.W.codeIn K cd26 "holes_by_hub" = true)
    (k26 : PySem.W.keepIn K (.ref f26) = true)
    (a27 : PySem.W.nsIn K mainGlobals "holes_sent" = some (some (.ref f27)))
    (l27 : K.lookup f27 = some ⟨oc27, od27, .func (PySem.W.fnOf "holes_sent" "holes_sent" (defArgs sSent) (defBody sSent) (defScope sSent) .none kV27 dc27 pm27 an27 cd27 ct27), sl27⟩)
    (c27 : PySem.W.codeIn K cd27 "holes_sent" = true)
    (k27 : PySem.W.keepIn K (.ref f27) = true)
    (a28 : PySem.W.nsIn K mainGlobals "fill_hubs" = some (some (.ref f28)))
    (l28 : K.lookup f28 = some ⟨oc28, od28, .func (PySem.W.fnOf "fill_hubs" "fill_hubs" (defArgs sFill) (defBody sFill) (defScope sFill) .none kV28 dc28 pm28 an28 cd28 ct28), sl28⟩)
    (c28 : PySem.W.codeIn K cd28 "fill_hubs" = true)
    (k28 : PySem.W.keepIn K (.ref f28) = true)
    (a29 : PySem.W.nsIn K mainGlobals "find_state" = some (some (.ref f29)))
    (l29 : K.lookup f29 = some ⟨oc29, od29, .func (PySem.W.fnOf "find_state" "find_state" (defArgs sState) (defBody sState) (defScope sState) .none kV29 dc29 pm29 an29 cd29 ct29), sl29⟩)
    (c29 : PySem.W.codeIn K cd29 "find_state" = true)
    (k29 : PySem.W.keepIn K (.ref f29) = true)
    (a18 : PySem.W.nsIn K mainGlobals "state" = some (some (.ref f18)))
    (l18 : K.lookup f18 = some ⟨oc18, od18, .func (PySem.W.fnOf "state" "state" (defArgs sStat) (defBody sStat) (defScope sStat) .none kV18 dc18 pm18 an18 cd18 ct18), sl18⟩)
    (c18 : PySem.W.codeIn K cd18 "state" = true)
    (k18 : PySem.W.keepIn K (.ref f18) = true)
    (pg : PySem.W.plainGet K C Str.empty = true)
    (hd : PySem.W.hasDictIn K C = true)
    (po : PySem.W.plainOver K C = true)
    (sa : PySem.W.findIn K (.ref C) "__setattr__" = some (some (.builtin "object.__setattr__")))
    (mk : PySem.W.makesIn K C = true)
    (kc : PySem.W.keepIn K (.ref C) = true)
    (nL : PySem.W.findIn K (.ref C) "line" = some none)
    (nR : PySem.W.findIn K (.ref C) "right" = some none)
    (glong : PySem.W.nsIn K mainGlobals "LONGEST_TEXT" = some (some (.int 16384 y0)))
    (gmost : PySem.W.nsIn K mainGlobals "MOST_WIRES" = some (some (.int 256 y1)))
    (gle : PySem.W.nsIn K mainGlobals "LINE_END" = some (some (.int 10 y2)))
    (gtoo : PySem.W.nsIn K mainGlobals "TOO_LONG" = some (some (.int (-1) y3)))
    (gfau : PySem.W.nsIn K mainGlobals "FAULTY" = some (some (.int (-6) y4)))
    (gno : PySem.W.nsIn K mainGlobals "NO_LINE" = some (some (.int 1 y5)))
    (gmany : PySem.W.nsIn K mainGlobals "LINE_TOO_MANY" = some (some (.int 2 y6)))
    (gsec : PySem.W.nsIn K mainGlobals "SECOND_WIRE" = some (some (.int 3 y7)))
    (grnd : PySem.W.nsIn K mainGlobals "ROUND" = some (some (.int 4 y8)))
    (gcol : PySem.W.nsIn K mainGlobals "LAST_COLUMN" = some (some (.int 79 y9)))
    (glast : PySem.W.nsIn K mainGlobals "LAST_HUB" = some (some (.int 255 y10)))
    (gnothing : PySem.W.nsIn K mainGlobals "NOTHING" = some (some (.int 0 y11)))
    (grows : PySem.W.nsIn K mainGlobals "ALL_ROWS" = some (some (.int 4095 y12)))
    (gupper : PySem.W.nsIn K mainGlobals "UPPER_ROWS" = some (some (.int 3 y13)))
    (glower : PySem.W.nsIn K mainGlobals "LOWER_ROWS" = some (some (.int 4092 y14)))
    (gnt : PySem.W.nsIn K mainGlobals "NOT_TOLD" = some (some (.int (-8) y15)))
    (gnos : PySem.W.nsIn K mainGlobals "NO_SUCH_HUB" = some (some (.int (-4) y16)))
    (n_zip : PySem.W.nsIn K mainGlobals "zip" = some none)
    (n_len : PySem.W.nsIn K mainGlobals "len" = some none)
    (n_ord : PySem.W.nsIn K mainGlobals "ord" = some none)
    (n_max : PySem.W.nsIn K mainGlobals "max" = some none)
    (n_tuple : PySem.W.nsIn K mainGlobals "tuple" = some none)
    (n_enumerate : PySem.W.nsIn K mainGlobals "enumerate" = some none)
    (n_range : PySem.W.nsIn K mainGlobals "range" = some none)
    (aSe : PySem.W.nsIn K mainGlobals "SENDERS" = some (some (.ref aS)))
    (aTa : PySem.W.nsIn K mainGlobals "TAKERS" = some (some (.ref aT)))
    (aBo : PySem.W.nsIn K mainGlobals "BOX_KINDS" = some (some (.ref aB)))
    (kS : Kinds K aS sW Jm.sNums)
    (kT : Kinds K aT tW Jm.tNums)
    (lB : K.lookup aB = some ⟨.type "dict", none, .dict es.toArray nB, #[]⟩)
    (kB : PySem.W.KeysLit w.params es)
    (pB : Paired (fun (p : Str × Str) (e : DictEntry) => ∃ t u, e.key = .str p.1 t ∧ e.val = .str p.2 u) bkPairs es)
    (sB : (aB == sysModules) = false)
    (hcode : PySem.W.codeHdIn K c0 tb.P = true)
    (hlp : tb.lp = lamPos (lamOf sHub))
    (hlq : tb.lq = hubQual ++ ".<locals>." ++ "<lambda>")
    : ∃ fd : FuncData, (∀ (s : Shared) (us : List Value), us.length = (["into", "k", "text", "card", "sending"] : List Str).length → BindsTo s fd ⟨us, []⟩ ((["into", "k", "text", "card", "sending"] : List Str).zip us)) ∧ ∀ base : Heap, K.In base → base.Ns mainGlobals mg → BMod base mg → FnOk P w K mg base CX0 11 fa fd ["into", "k", "text", "card", "sending"] (spStat K tb) := by
  have e := hfa.symm.trans (PySem.W.mg_of X G a18)
  cases e
  have T : Txt K mg C := ⟨⟨pg, hd, po, sa⟩, nL, nR, PySem.W.mg_none_of X G n_zip, PySem.W.mg_none_of X G n_len, PySem.W.mg_none_of X G n_ord⟩
  have F1 := fun_mk (st := sInit) l1 c1 k1
  have b1 := Fun.binds (ps := ["self", "line"]) F1 fun _ _ _ _ _ _ us hl => match us, hl with | [_, _], _ => rfl
  have F2 := fun_mk (st := sCount) l2 c2 k2
  have b2 := Fun.binds (ps := ["self", "signs"]) F2 fun _ _ _ _ _ _ us hl => match us, hl with | [_, _], _ => rfl
  have F3 := fun_mk (st := sSigns) l3 c3 k3
  have b3 := Fun.binds (ps := ["self", "signs"]) F3 fun _ _ _ _ _ _ us hl => match us, hl with | [_, _], _ => rfl
  have F4 := fun_mk (st := sFig) l4 c4 k4
  have b4 := Fun.binds (ps := ["self"]) F4 fun _ _ _ _ _ _ us hl => match us, hl with | [_], _ => rfl
  have F5 := fun_mk (st := sNum) l5 c5 k5
  have b5 := Fun.binds (ps := ["self", "greatest"]) F5 fun _ _ _ _ _ _ us hl => match us, hl with | [_, _], _ => rfl
  have F6 : FunC K "read_hub" hubQual sHub f6 _ c0 := ⟨⟨oc6, od6, kV6, dc6, pm6, an6, ct6, sl6, rfl, l6, c6⟩, k6⟩
  have b6 := Fun.binds (ps := ["self", "kinds"]) F6.fn fun _ _ _ _ _ _ us hl => match us, hl with | [_, _], _ => rfl
  have F7 := fun_mk (st := sWire) l7 c7 k7
  have b7 := Fun.binds (ps := ["self"]) F7 fun _ _ _ _ _ _ us hl => match us, hl with | [_], _ => rfl
  have F11 := fun_mk (st := sPart) l11 c11 k11
  have b11 := Fun.binds (ps := ["text"]) F11 fun _ _ _ _ _ _ us hl => match us, hl with | [_], _ => rfl
  have F12 := fun_mk (st := sRead) l12 c12 k12
  have b12 := Fun.binds (ps := ["lines"]) F12 fun _ _ _ _ _ _ us hl => match us, hl with | [_], _ => rfl
  have F13 := fun_mk (st := sLine) l13 c13 k13
  have b13 := Fun.binds (ps := ["lines"]) F13 fun _ _ _ _ _ _ us hl => match us, hl with | [_], _ => rfl
  have F14 := fun_mk (st := sBox) l14 c14 k14
  have b14 := Fun.binds (ps := ["hub"]) F14 fun _ _ _ _ _ _ us hl => match us, hl with | [_], _ => rfl
  have F15 := fun_mk (st := sCome) l15 c15 k15
  have b15 := Fun.binds (ps := ["sends_to", "start", "goal"]) F15 fun _ _ _ _ _ _ us hl => match us, hl with | [_, _, _], _ => rfl
  have F16 := fun_mk (st := sFault) l16 c16 k16
  have b16 := Fun.binds (ps := ["wires"]) F16 fun _ _ _ _ _ _ us hl => match us, hl with | [_], _ => rfl
  have F17 := fun_mk (st := sRef) l17 c17 k17
  have b17 := Fun.binds (ps := ["text"]) F17 fun _ _ _ _ _ _ us hl => match us, hl with | [_], _ => rfl
  have F19 := fun_mk (st := sBehind) l19 c19 k19
  have b19 := Fun.binds (ps := ["sender"]) F19 fun _ _ _ _ _ _ us hl => match us, hl with | [_], _ => rfl
  have F20 := fun_mk (st := sSend) l20 c20 k20
  have b20 := Fun.binds (ps := ["wires"]) F20 fun _ _ _ _ _ _ us hl => match us, hl with | [_], _ => rfl
  have F22 := fun_mk (st := sTold) l22 c22 k22
  have b22 := Fun.binds (ps := ["row", "last_number"]) F22 fun _ _ _ _ _ _ us hl => match us, hl with | [_, _], _ => rfl
  have F23 := fun_mk (st := sRefL) l23 c23 k23
  have b23 := Fun.binds (ps := ["text", "card", "sending"]) F23 fun _ _ _ _ _ _ us hl => match us, hl with | [_, _, _], _ => rfl
  have F24 := fun_mk (st := sFigH) l24 c24 k24
  have b24 := Fun.binds (ps := ["figure"]) F24 fun _ _ _ _ _ _ us hl => match us, hl with | [_], _ => rfl
  have F25 := fun_mk (st := sHoles) l25 c25 k25
  have b25 := Fun.binds (ps := ["number"]) F25 fun _ _ _ _ _ _ us hl => match us, hl with | [_], _ => rfl
  have F26 := fun_mk (st := sByHub) l26 c26 k26
  have b26 := Fun.binds (ps := ["word", "row"]) F26 fun _ _ _ _ _ _ us hl => match us, hl with | [_, _], _ => rfl
  have F27 := fun_mk (st := sSent) l27 c27 k27
  have b27 := Fun.binds (ps := ["hub", "outside", "inside"]) F27 fun _ _ _ _ _ _ us hl => match us, hl with | [_, _, _], _ => rfl
  have F28 := fun_mk (st := sFill) l28 c28 k28
  have b28 := Fun.binds (ps := ["wires", "outside"]) F28 fun _ _ _ _ _ _ us hl => match us, hl with | [_, _], _ => rfl
  have F29 := fun_mk (st := sState) l29 c29 k29
  have b29 := Fun.binds (ps := ["text", "card", "sending"]) F29 fun _ _ _ _ _ _ us hl => match us, hl with | [_, _, _], _ => rfl
  have F18 := fun_mk (st := sStat) l18 c18 k18
  have b18 := Fun.binds (ps := ["into", "k", "text", "card", "sending"]) F18 fun _ _ _ _ _ _ us hl => match us, hl with | [_, _, _, _, _], _ => rfl
  have M : Mk K C f1 := ⟨mk, a1, i1, kc⟩
  have m2 : Meth K C "count_shared" f2 := ⟨a2, i2, k2⟩
  have m3 : Meth K C "read_signs" f3 := ⟨a3, i3, k3⟩
  have m4 : Meth K C "figure_ahead" f4 := ⟨a4, i4, k4⟩
  have m5 : Meth K C "read_number" f5 := ⟨a5, i5, k5⟩
  have m6 : Meth K C "read_hub" f6 := ⟨a6, i6, k6⟩
  have m7 : Meth K C "read_wire" f7 := ⟨a7, i7, k7⟩
  have TW : TxtW K mg aS aT := ⟨PySem.W.mg_of X G aSe, PySem.W.mg_of X G aTa, kS, kT⟩
  have TP : TxtP mg := ⟨⟨_, PySem.W.mg_of X G gle⟩⟩
  have TL : TxtL mg C := ⟨PySem.W.mg_of X G aC, ⟨_, PySem.W.mg_of X G gmost⟩, ⟨_, PySem.W.mg_of X G gmany⟩, ⟨_, PySem.W.mg_of X G gno⟩, PySem.W.mg_none_of X G n_enumerate⟩
  have TB : TxtB w K mg aB := ⟨PySem.W.mg_of X G aBo, kdict_mk lB kB pB sB⟩
  have TF : TxtF mg f14 f15 := ⟨⟨_, PySem.W.mg_of X G gsec⟩, ⟨_, PySem.W.mg_of X G grnd⟩, PySem.W.mg_none_of X G n_enumerate, PySem.W.mg_of X G a14, PySem.W.mg_of X G a15⟩
  have TR : TxtR mg f11 f13 f12 f16 := ⟨⟨_, PySem.W.mg_of X G glong⟩, ⟨_, PySem.W.mg_of X G gtoo⟩, ⟨_, PySem.W.mg_of X G gfau⟩, PySem.W.mg_of X G a11, PySem.W.mg_of X G a13, PySem.W.mg_of X G a12, PySem.W.mg_of X G a16⟩
  have TK : TxtK w K mg aB aT f14 := ⟨TB, PySem.W.mg_of X G aTa, kT, PySem.W.mg_of X G a14⟩
  have TTo : TxtT mg := ⟨⟨_, PySem.W.mg_of X G gnothing⟩, ⟨_, PySem.W.mg_of X G grows⟩, PySem.W.mg_none_of X G n_range, PySem.W.mg_none_of X G n_len⟩
  have TRL : TxtRL mg f17 f22 := ⟨⟨_, PySem.W.mg_of X G gcol⟩, ⟨_, PySem.W.mg_of X G glast⟩, ⟨_, PySem.W.mg_of X G gnt⟩, PySem.W.mg_of X G a17, PySem.W.mg_of X G a22⟩
  have THo : TxtHo mg f24 := ⟨⟨_, PySem.W.mg_of X G gnothing⟩, PySem.W.mg_of X G a24⟩
  have TBH : TxtBH mg := ⟨PySem.W.mg_none_of X G n_range, PySem.W.mg_none_of X G n_len⟩
  have TSn : TxtS mg f25 := ⟨⟨_, PySem.W.mg_of X G gnothing⟩, ⟨_, PySem.W.mg_of X G gupper⟩, ⟨_, PySem.W.mg_of X G glower⟩, PySem.W.mg_of X G a25⟩
  have TFl : TxtFl mg f20 f19 f27 := ⟨PySem.W.mg_of X G a20, PySem.W.mg_of X G a19, PySem.W.mg_of X G a27⟩
  have TSt : TxtSt mg f26 f28 f12 f11 := ⟨PySem.W.mg_of X G a26, PySem.W.mg_of X G a28, PySem.W.mg_of X G a12, PySem.W.mg_of X G a11⟩
  have TSs : TxtSs K mg aT f23 f29 := ⟨⟨_, PySem.W.mg_of X G gnos⟩, ⟨_, PySem.W.mg_of X G gnothing⟩, PySem.W.mg_none_of X G n_len, PySem.W.mg_of X G aTa, kT, PySem.W.mg_of X G a23, PySem.W.mg_of X G a29⟩
  refine ⟨PySem.W.fnOf "state" "state" (defArgs sStat) (defBody sStat) (defScope sStat) .none kV18 dc18 pm18 an18 cd18 ct18, fun s us hu => match us, hu with | [_, _, _, _, _], _ => .of_eq rfl, fun base _ _ BM => ?_⟩
  have TH : TxtH base K mg tb c0 := ⟨⟨hcode, BM⟩, PySem.W.mg_none_of X G n_max, PySem.W.mg_none_of X G n_tuple⟩
  have GS : FnOk P w K mg base CX0 2 f3 _ ["self", "signs"] (spSigns C) := ok_signs F3 T F2 b2 m2
  have GN : FnOk P w K mg base CX0 2 f5 _ ["self", "greatest"] (spNum C) := ok_num F5 T F4 b4 m4
  have GH : FnOk P w K mg base CX0 6 f6 _ ["self", "kinds"] (spHub K C tb) := ok_hub F6 T TH hlp hlq F2 b2 m2 GS b3 m3 GN b5 m5
  have GW : FnOk P w K mg base CX0 7 f7 _ ["self"] (spWire C tb) := ok_wire F7 T TW GH b6 m6 GS b3 m3
  have GP : FnOk P w K mg base CX0 1 f11 _ ["text"] (spPart K) := ok_part F11 TP
  have GR : FnOk P w K mg base CX0 8 f12 _ ["lines"] (spRead tb) := ok_read F12 T TL M F1 b1 GW b7 m7
  have GL : FnOk P w K mg base CX0 8 f13 _ ["lines"] (spLine tb) := ok_line F13 T TL M F1 b1 GW b7 m7
  have GB : FnOk P w K mg base CX0 1 f14 _ ["hub"] spBox := ok_box F14 TB
  have GC : FnOk P w K mg base CX0 1 f15 _ ["sends_to", "start", "goal"] spCome := ok_come F15
  have GF : FnOk P w K mg base CX0 2 f16 _ ["wires"] spFault := ok_fault F16 TF GB b14 k14 GC b15 k15
  have GX : FnOk P w K mg base CX0 9 f17 _ ["text"] (spRef K tb) := ok_ref F17 T TR GP b11 k11 GL b13 k13 GR b12 k12 GF b16 k16
  have GBh : FnOk P w K mg base CX0 2 f19 _ ["sender"] spBehind := ok_behind F19 TK GB b14 k14
  have GSd : FnOk P w K mg base CX0 1 f20 _ ["wires"] spSend := ok_send F20
  have GTo : FnOk P w K mg base CX0 1 f22 _ ["row", "last_number"] (spTold K) := ok_told F22 TTo
  have GRL : FnOk P w K mg base CX0 10 f23 _ ["text", "card", "sending"] (spRefL K tb) := ok_refL F23 TRL GX b17 k17 GTo b22 k22
  have GFg : FnOk P w K mg base CX0 1 f24 _ ["figure"] spFigH := ok_figH F24
  have GHo : FnOk P w K mg base CX0 2 f25 _ ["number"] spHoles := ok_holes F25 THo GFg b24 k24
  have GBy : FnOk P w K mg base CX0 1 f26 _ ["word", "row"] (spByHub K) := ok_byhub F26 TBH
  have GSn : FnOk P w K mg base CX0 3 f27 _ ["hub", "outside", "inside"] spSent := ok_sent F27 TSn GHo b25 k25
  have GFi : FnOk P w K mg base CX0 4 f28 _ ["wires", "outside"] spFill := ok_fill F28 TFl GSd b20 k20 GBh b19 k19 GSn b27 k27
  have GSt : FnOk P w K mg base CX0 9 f29 _ ["text", "card", "sending"] (spState K tb) := ok_fstate F29 TSt GBy b26 k26 GFi b28 k28 GR b12 k12 GP b11 k11
  exact ok_stat F18 TSs GRL b23 k23 GSt b29 k29
/-- the table of read_hub's code -/
def tb0 : Tb := ⟨93, lamPos (lamOf sHub), hubQual ++ ".<locals>." ++ "<lambda>"⟩
theorem bL_ib (b : Bytes) : bL b = (Jm.ib b).map V.int := by
  unfold bL Jm.ib
  rw [List.map_map]
  rfl
theorem fin_is (i k : Int) (ns c f : List Int) : PyWrpunb.state i k ns c f = Jm.flowB (PanelsNeutral.text ns) c f (Jm.stateL i k) := Jm.state_of i k ns c f
end Hb
open PySem PySem.W PyProof.Rows
local macro_rules | `(tactic| o_headS (kHook $k $a $p)) => `(tactic| o_headS (kmHook $k $a $p [93]))
set_option maxRecDepth 100000 in
set_option maxHeartbeats 0 in
theorem PySem.Challenge.cw_hubpanels_s03_state_holds : PySem.Challenge.rw_hubpanels_s03_state.Holds := by
  w_on; k_headS; (case hw => exact ⟨[.int 0, .int 0, .list [], .list [], .list []], by decide +kernel, by decide +kernel⟩)
  k_fillS
  refine L2.walk_specT (r := PySem.Challenge.rw_hubpanels_s03_state) (k := 11) (ps := ["into", "k", "text", "card", "sending"]) (sp := fun _ K => Hb.spStat K Hb.tb0) (T := 93) (by decide +kernel) rfl rfl ⟨rfl, by decide, by decide⟩ (fun w h Y => PySem.W.km_in_of Y) ?T ?F ?S
  case T =>
    intro w h Y
    have hT := PySem.W.km_tabs_of Y 93 (by simp)
    exact ⟨hT, by kernel_rfl, ((PySem.W.codeHd_of_K (c := 97) (P := 93) (PySem.W.km_in_of Y) (by kernel_rfl)).tab hT).isCodeTable⟩
  case F =>
    intro w mg fa h Y KX G hmg
    refine' Hb.all_mk (tb := Hb.tb0) KX G hmg ?aC ?a1 ?i1 ?l1 ?c1 ?k1 ?a2 ?i2 ?l2 ?c2 ?k2 ?a3 ?i3 ?l3 ?c3 ?k3 ?a4 ?i4 ?l4 ?c4 ?k4 ?a5 ?i5 ?l5 ?c5 ?k5 ?a6 ?i6 ?l6 ?c6 ?k6 ?a7 ?i7 ?l7 ?c7 ?k7 ?a11 ?l11 ?c11 ?k11 ?a12 ?l12 ?c12 ?k12 ?a13 ?l13 ?c13 ?k13 ?a14 ?l14 ?c14 ?k14 ?a15 ?l15 ?c15 ?k15 ?a16 ?l16 ?c16 ?k16 ?a17 ?l17 ?c17 ?k17 ?a19 ?l19 ?c19 ?k19 ?a20 ?l20 ?c20 ?k20 ?a22 ?l22 ?c22 ?k22 ?a23 ?l23 ?c23 ?k23 ?a24 ?l24 ?c24 ?k24 ?a25 ?l25 ?c25 ?k25 ?a26 ?l26 ?c26 ?k26 ?a27 ?l27 ?c27 ?k27 ?a28 ?l28 ?c28 ?k28 ?a29 ?l29 ?c29 ?k29 ?a18 ?l18 ?c18 ?k18 ?pg ?hd ?po ?sa ?mk ?kc ?nL ?nR ?glong ?gmost ?gle ?gtoo ?gfau ?gno ?gmany ?gsec ?grnd ?gcol ?glast ?gnothing ?grows ?gupper ?glower ?gnt ?gnos ?n_zip ?n_len ?n_ord ?n_max ?n_tuple ?n_enumerate ?n_range ?aSe ?aTa ?aBo ?kS ?kT ?lB ?kB ?pB ?sB ?hcode ?hlp ?hlq
    (case aC => k_is)
    (case a1 => k_is)
    (case i1 => k_is)
    (case l1 => k_is)
    (case c1 => k_is)
    (case k1 => k_is)
    (case a2 => k_is)
    (case i2 => k_is)
    (case l2 => k_is)
    (case c2 => k_is)
    (case k2 => k_is)
    (case a3 => k_is)
    (case i3 => k_is)
    (case l3 => k_is)
    (case c3 => k_is)
    (case k3 => k_is)
    (case a4 => k_is)
    (case i4 => k_is)
    (case l4 => k_is)
    (case c4 => k_is)
    (case k4 => k_is)
    (case a5 => k_is)
    (case i5 => k_is)
    (case l5 => k_is)
    (case c5 => k_is)
    (case k5 => k_is)
    (case a6 => k_is)
    (case i6 => k_is)
    (case l6 => k_is)
    (case c6 => k_is)
    (case k6 => k_is)
    (case a7 => k_is)
    (case i7 => k_is)
    (case l7 => k_is)
    (case c7 => k_is)
    (case k7 => k_is)
    (case a11 => k_is)
    (case l11 => k_is)
    (case c11 => k_is)
    (case k11 => k_is)
    (case a12 => k_is)
    (case l12 => k_is)
    (case c12 => k_is)
    (case k12 => k_is)
    (case a13 => k_is)
    (case l13 => k_is)
    (case c13 => k_is)
    (case k13 => k_is)
    (case a14 => k_is)
    (case l14 => k_is)
    (case c14 => k_is)
    (case k14 => k_is)
    (case a15 => k_is)
    (case l15 => k_is)
    (case c15 => k_is)
    (case k15 => k_is)
    (case a16 => k_is)
    (case l16 => k_is)
    (case c16 => k_is)
    (case k16 => k_is)
    (case a17 => k_is)
    (case l17 => k_is)
    (case c17 => k_is)
    (case k17 => k_is)
    (case a19 => k_is)
    (case l19 => k_is)
    (case c19 => k_is)
    (case k19 => k_is)
    (case a20 => k_is)
    (case l20 => k_is)
    (case c20 => k_is)
    (case k20 => k_is)
    (case a22 => k_is)
    (case l22 => k_is)
    (case c22 => k_is)
    (case k22 => k_is)
    (case a23 => k_is)
    (case l23 => k_is)
    (case c23 => k_is)
    (case k23 => k_is)
    (case a24 => k_is)
    (case l24 => k_is)
    (case c24 => k_is)
    (case k24 => k_is)
    (case a25 => k_is)
    (case l25 => k_is)
    (case c25 => k_is)
    (case k25 => k_is)
    (case a26 => k_is)
    (case l26 => k_is)
    (case c26 => k_is)
    (case k26 => k_is)
    (case a27 => k_is)
    (case l27 => k_is)
    (case c27 => k_is)
    (case k27 => k_is)
    (case a28 => k_is)
    (case l28 => k_is)
    (case c28 => k_is)
    (case k28 => k_is)
    (case a29 => k_is)
    (case l29 => k_is)
    (case c29 => k_is)
    (case k29 => k_is)
    (case a18 => k_is)
    (case l18 => k_is)
    (case c18 => k_is)
    (case k18 => k_is)
    (case pg => k_is)
    (case hd => k_is)
    (case po => k_is)
    (case sa => k_is)
    (case mk => k_is)
    (case kc => k_is)
    (case nL => k_is)
    (case nR => k_is)
    (case glong => k_is)
    (case gmost => k_is)
    (case gle => k_is)
    (case gtoo => k_is)
    (case gfau => k_is)
    (case gno => k_is)
    (case gmany => k_is)
    (case gsec => k_is)
    (case grnd => k_is)
    (case gcol => k_is)
    (case glast => k_is)
    (case gnothing => k_is)
    (case grows => k_is)
    (case gupper => k_is)
    (case glower => k_is)
    (case gnt => k_is)
    (case gnos => k_is)
    (case n_zip => k_is)
    (case n_len => k_is)
    (case n_ord => k_is)
    (case n_max => k_is)
    (case n_tuple => k_is)
    (case n_enumerate => k_is)
    (case n_range => k_is)
    (case aSe => k_is)
    (case aTa => k_is)
    (case aBo => k_is)
    (case kS => refine' Hb.kinds_s ?kSl ?kSl0 ?kSi0 ?kSl1 ?kSi1 ?kSl2 ?kSi2 ?kSl3 ?kSi3 ?kSl4 ?kSi4 ?kSl5 ?kSi5 ?kSl6 ?kSi6 ?kSl7 ?kSi7; (case kSl => k_is); (case kSl0 => k_is); (case kSi0 => k_is); (case kSl1 => k_is); (case kSi1 => k_is); (case kSl2 => k_is); (case kSi2 => k_is); (case kSl3 => k_is); (case kSi3 => k_is); (case kSl4 => k_is); (case kSi4 => k_is); (case kSl5 => k_is); (case kSi5 => k_is); (case kSl6 => k_is); (case kSi6 => k_is); (case kSl7 => k_is); (case kSi7 => k_is))
    (case kT => refine' Hb.kinds_t ?kTl ?kTl0 ?kTi0 ?kTl1 ?kTi1 ?kTl2 ?kTi2 ?kTl3 ?kTi3 ?kTl4 ?kTi4 ?kTl5 ?kTi5 ?kTl6 ?kTi6 ?kTl7 ?kTi7; (case kTl => k_is); (case kTl0 => k_is); (case kTi0 => k_is); (case kTl1 => k_is); (case kTi1 => k_is); (case kTl2 => k_is); (case kTi2 => k_is); (case kTl3 => k_is); (case kTi3 => k_is); (case kTl4 => k_is); (case kTi4 => k_is); (case kTl5 => k_is); (case kTi5 => k_is); (case kTl6 => k_is); (case kTi6 => k_is); (case kTl7 => k_is); (case kTi7 => k_is))
    (case lB => k_is)
    (case kB => exact ⟨⟨_, _, rfl, rfl⟩, ⟨_, _, rfl, rfl⟩, ⟨_, _, rfl, rfl⟩, ⟨_, _, rfl, rfl⟩, ⟨_, _, rfl, rfl⟩, ⟨_, _, rfl, rfl⟩, ⟨_, _, rfl, rfl⟩, ⟨_, _, rfl, rfl⟩, ⟨_, _, rfl, rfl⟩, ⟨_, _, rfl, rfl⟩, ⟨_, _, rfl, rfl⟩, ⟨_, _, rfl, rfl⟩, trivial⟩)
    (case pB => exact (.cons ⟨_, _, rfl, rfl⟩ (.cons ⟨_, _, rfl, rfl⟩ (.cons ⟨_, _, rfl, rfl⟩ (.cons ⟨_, _, rfl, rfl⟩ (.cons ⟨_, _, rfl, rfl⟩ (.cons ⟨_, _, rfl, rfl⟩ (.cons ⟨_, _, rfl, rfl⟩ (.cons ⟨_, _, rfl, rfl⟩ (.cons ⟨_, _, rfl, rfl⟩ (.cons ⟨_, _, rfl, rfl⟩ (.cons ⟨_, _, rfl, rfl⟩ (.cons ⟨_, _, rfl, rfl⟩ .nil)))))))))))))
    (case sB => rfl)
    (case hcode => kernel_rfl)
    (case hlp => rfl)
    (case hlq => rfl)
  case S =>
    intro w K H xs a hO hwi hask hx
    cases hx with
    | cons hi hx =>
      cases hi
      cases hx with
      | cons hk hx =>
        cases hk
        cases hx with
        | cons h0 h1 =>
          cases h1 with
          | cons h1 h2 =>
          cases h2 with
          | cons h2 h3 =>
          cases h3
          cases h0 with
          | lst st ht =>
          cases h1 with
          | lst sc hc =>
          cases h2 with
          | lst sf hf =>
          have hwi2 : (Codec.inInt (-1000000000000000000) 1000000000000000000 a.1 && (Codec.inInt (-1000000000000000000) 1000000000000000000 a.2.1 && ((Codec.inLen 0 65536 a.2.2.1 && a.2.2.1.all (Codec.inInt 0 255)) && ((Codec.inLen 0 16000 a.2.2.2.1 && a.2.2.2.1.all (Codec.inInt (-1000000000000000000) 1000000000000000000)) && ((Codec.inLen 0 16000 a.2.2.2.2.1 && a.2.2.2.2.1.all (Codec.inInt (-1000000000000000000) 1000000000000000000)) && true))))) = true := hwi
          rw [Bool.and_eq_true, Bool.and_eq_true] at hwi2
          have et := L2.ints_dw a.2.2.1 _ ht
          subst et
          have ec := L2.ints_dw a.2.2.2.1 _ hc
          subst ec
          have ef := L2.ints_dw a.2.2.2.2.1 _ hf
          subst ef
          have q : ((Codec.inLen 0 65536 a.2.2.1 && a.2.2.1.all (Codec.inInt 0 255)) && ((Codec.inLen 0 16000 a.2.2.2.1 && a.2.2.2.1.all (Codec.inInt (-1000000000000000000) 1000000000000000000)) && ((Codec.inLen 0 16000 a.2.2.2.2.1 && a.2.2.2.2.1.all (Codec.inInt (-1000000000000000000) 1000000000000000000)) && true))) = true := hwi2.2.2
          simp only [Bool.and_eq_true] at q
          have hr : ∀ x ∈ a.2.2.1, 0 ≤ x ∧ x ≤ 255 := fun x hx => Codec.inInt_iff.mp (List.all_eq_true.mp q.1.2 x hx)
          have hlc : a.2.2.2.1.length ≤ 65536 := Nat.le_trans (Codec.inNat_iff.mp q.2.1.1).2 (by decide)
          have hlf : a.2.2.2.2.1.length ≤ 65536 := Nat.le_trans (Codec.inNat_iff.mp q.2.2.1.1).2 (by decide)
          refine ⟨a.1, a.2.1, _, _, _, PanelsNeutral.text a.2.2.1, a.2.2.2.1, a.2.2.2.2.1, rfl, ?_, ?_, sc, hlc, sf, hlf, ⟨#[], hO.1, .inl rfl⟩, fun H' p s1 hT hp => ?_⟩
          · rw [Hb.bL_ib, Jm.ib_text hr]
            exact st
          · rw [Jm.text_len]
            exact (Codec.inNat_iff.mp q.1.1).2
          · refine .lst (L2.SqL.of hp) ?_
            have ej := Hb.fin_is a.1 a.2.1 a.2.2.1 a.2.2.2.1 a.2.2.2.2.1
            show L2.DwAll K H' (Hb.iL (Jm.flowB (PanelsNeutral.text a.2.2.1) a.2.2.2.1 a.2.2.2.2.1 (Jm.stateL a.1 a.2.1))) _
            rw [← ej]
            exact L2.dw_ints _
end
