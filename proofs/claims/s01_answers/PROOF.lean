import PyProof.Rows.All
import Wide.All
import OpenK.AllK
import Wide.FinOn
import Open.SpecLaws
import KE.OsGo
import HandS.ForSpec
import HandS.ForMost
import HandS.More
import HandS.Walk
import HandS.Rev
import PyProof.ListRange
import KE.KSortKeySt
import HandS.SortKw
import HandS.SortInts
import HandS.Lambda
import PyProof.MaxThree
import PyProof.SeqI3
import PyProof.AutoSeq1
import HandS.Conv
import HandS.EndTab
import KE.KNest
import PySq40
import PySem.Challenge.RW_tracehouse_s01_answers
set_option Elab.async false
set_option linter.all false
set_option maxRecDepth 100000
set_option maxHeartbeats 4000000
/-! # Plain Lean about the specification: the tree by a pile, the moments alone by a sweep, what a whole hung on by a pile. -/
namespace Tr
open Sq40
def Srt (l : List Span) : Prop := l.Pairwise fun x y => x.id < y.id
theorem Srt.inj : ∀ {l : List Span}, Srt l → ∀ {x y : Span}, x ∈ l → y ∈ l → x.id = y.id → x = y
  | [], _, x, y, hx, _, _ => by cases hx
  | a :: l, h, x, y, hx, hy, e => by
    have h1 : ∀ z ∈ l, a.id < z.id := fun z hz => List.rel_of_pairwise_cons h hz
    have h2 : Srt l := List.Pairwise.of_cons h
    rcases List.mem_cons.mp hx with ex | hx' <;> rcases List.mem_cons.mp hy with ey | hy'
    · rw [ex, ey]
    · have := h1 y hy'
      rw [ex] at e
      omega
    · have := h1 x hx'
      rw [ey] at e
      omega
    · exact Srt.inj h2 hx' hy' e
theorem Srt.ids {l : List Span} (h : Srt l) : (l.map (·.id)).Nodup := by
  unfold List.Nodup
  rw [List.pairwise_map]
  exact h.imp fun q => Nat.ne_of_lt q
theorem nodup_rev {α : Type} {l : List α} (h : l.Nodup) : l.reverse.Nodup := (List.reverse_perm l).symm.nodup h
theorem mem_kids {l : List Span} {i : Nat} {y : Span} : y ∈ kids l i ↔ y ∈ l ∧ y.up = some i := by
  simp [kids, List.mem_filter]
theorem mem_roots {l : List Span} {y : Span} : y ∈ roots l ↔ y ∈ l ∧ y.up = none := by
  simp [roots, List.mem_filter, Option.isNone_iff_eq_none]
theorem Srt.kids {l : List Span} (h : Srt l) (i : Nat) : Srt (kids l i) := List.Pairwise.filter _ h
theorem Srt.roots {l : List Span} (h : Srt l) : Srt (roots l) := List.Pairwise.filter _ h
/-! ## The tree -/
structure TInv (l : List Span) (rows wait : List (Span × Nat)) : Prop where
  eq : rows ++ wait.reverse.flatMap (fun p => below l (l.length + 1 - p.2) p.2 p.1) = tree l
  nd : ((rows ++ wait).map (·.1.id)).Nodup
  mem : ∀ p ∈ rows ++ wait, p.1 ∈ l
  par : ∀ p ∈ rows ++ wait, ∀ i, p.1.up = some i → i ∈ rows.map (·.1.id)
  dep : ∀ p ∈ wait, p.2 ≤ rows.length
theorem TInv.len {l : List Span} {rows wait : List (Span × Nat)} (h : TInv l rows wait) : rows.length + wait.length ≤ l.length := by
  have q : ((rows ++ wait).map (·.1.id)) ⊆ l.map (·.id) := by
    intro i hi
    obtain ⟨p, hp, rfl⟩ := List.mem_map.mp hi
    exact List.mem_map.mpr ⟨p.1, h.mem p hp, rfl⟩
  have := List.Nodup.length_le_of_subset h.nd q
  simpa using this
theorem TInv.start {l : List Span} (h : Srt l) : TInv l [] ((roots l).reverse.map fun x => (x, 0)) := by
  refine ⟨?_, ?_, ?_, ?_, ?_⟩
  · rw [List.nil_append, ← List.map_reverse, List.reverse_reverse, List.flatMap_map]
    rfl
  · rw [List.nil_append, List.map_map]
    show ((roots l).reverse.map fun x => x.id).Nodup
    rw [List.map_reverse]
    exact nodup_rev h.roots.ids
  · intro p hp
    simp only [List.nil_append, List.mem_map, List.mem_reverse] at hp
    obtain ⟨x, hx, rfl⟩ := hp
    exact (mem_roots.mp hx).1
  · intro p hp i hi
    simp only [List.nil_append, List.mem_map, List.mem_reverse] at hp
    obtain ⟨x, hx, rfl⟩ := hp
    rw [(mem_roots.mp hx).2] at hi
    cases hi
  · intro p hp
    simp only [List.mem_map, List.mem_reverse] at hp
    obtain ⟨x, hx, rfl⟩ := hp
    exact Nat.le_refl _
theorem TInv.step {l : List Span} {rows w : List (Span × Nat)} {x : Span} {d : Nat} (hl : Srt l) (h : TInv l rows (w ++ [(x, d)])) :
    TInv l (rows ++ [(x, d)]) (w ++ (kids l x.id).reverse.map fun y => (y, d + 1)) := by
  have hlen := h.len
  have hd : d ≤ rows.length := h.dep (x, d) (by simp)
  simp only [List.length_append, List.length_cons, List.length_nil] at hlen
  have hxn : x.id ∉ rows.map (·.1.id) := by
    intro q
    have := h.nd
    simp only [List.map_append, List.map_cons, List.map_nil] at this
    obtain ⟨p, hp, e⟩ := List.mem_map.mp q
    have := (List.nodup_append.mp this).2.2 x.id q x.id (by simp)
    exact this rfl
  refine ⟨?_, ?_, ?_, ?_, ?_⟩
  · rw [← h.eq]
    simp only [List.reverse_append, List.map_reverse, List.reverse_reverse, List.reverse_cons, List.reverse_nil, List.nil_append, List.flatMap_append, List.flatMap_cons, List.flatMap_nil, List.append_nil, List.append_assoc, List.flatMap_map]
    congr 1
    have e : l.length + 1 - d = (l.length - d) + 1 := by omega
    rw [e]
    show _ = ((x, d) :: (kids l x.id).flatMap (below l (l.length - d) (d + 1))) ++ _
    rw [List.singleton_append, List.cons_append, ← Nat.add_sub_add_right l.length 1 d]
  · have h1 := h.nd
    have : (rows ++ [(x, d)] ++ (w ++ (kids l x.id).reverse.map fun y => (y, d + 1))).map (·.1.id) = (rows.map (·.1.id) ++ [x.id] ++ (w.map (·.1.id))) ++ (kids l x.id).reverse.map (·.id) := by
      simp [List.map_map, Function.comp_def]
    rw [this]
    have h2 : (rows.map (·.1.id) ++ [x.id] ++ w.map (·.1.id)).Nodup := by
      have p : List.Perm ((rows ++ (w ++ [(x, d)])).map (·.1.id)) (rows.map (·.1.id) ++ [x.id] ++ w.map (·.1.id)) := by
        simp only [List.map_append, List.map_cons, List.map_nil, List.append_assoc]
        exact List.Perm.append_left _ List.perm_append_comm
      exact p.nodup h1
    refine List.nodup_append.mpr ⟨h2, ?_, ?_⟩
    · rw [List.map_reverse]
      exact nodup_rev (hl.kids _).ids
    · intro a ha b hb e
      subst e
      rw [List.map_reverse, List.mem_reverse] at hb
      obtain ⟨y, hy, rfl⟩ := List.mem_map.mp hb
      have hy2 := mem_kids.mp hy
      have hm : y.id ∈ (rows ++ (w ++ [(x, d)])).map (·.1.id) := by
        simp only [List.map_append, List.map_cons, List.map_nil, List.mem_append, List.mem_singleton] at ha ⊢
        rcases ha with (ha | ha) | ha
        · exact .inl ha
        · exact .inr (.inr ha)
        · exact .inr (.inl ha)
      obtain ⟨p, hp, e⟩ := List.mem_map.mp hm
      have ep : p.1 = y := hl.inj (h.mem p hp) hy2.1 e
      exact hxn (h.par p hp x.id (by rw [ep]; exact hy2.2))
  · intro p hp
    simp only [List.mem_append, List.mem_map, List.mem_reverse, List.mem_singleton] at hp
    rcases hp with (hp | rfl) | hp | ⟨y, hy, rfl⟩
    · exact h.mem p (by simp [hp])
    · exact h.mem _ (by simp)
    · exact h.mem p (by simp [hp])
    · exact (mem_kids.mp hy).1
  · intro p hp i hi
    simp only [List.map_append, List.mem_append]
    simp only [List.mem_append, List.mem_map, List.mem_reverse, List.mem_singleton] at hp
    rcases hp with (hp | rfl) | hp | ⟨y, hy, rfl⟩
    · exact .inl (h.par p (by simp [hp]) i hi)
    · exact .inl (h.par _ (by simp) i hi)
    · exact .inl (h.par p (by simp [hp]) i hi)
    · refine .inr ?_
      have : y.up = some i := hi
      rw [(mem_kids.mp hy).2] at this
      cases this
      simp
  · intro p hp
    simp only [List.length_append, List.length_cons, List.length_nil]
    rcases List.mem_append.mp hp with hp | hp
    · have := h.dep p (by simp [hp])
      omega
    · obtain ⟨y, hy, rfl⟩ := List.mem_map.mp hp
      show d + 1 ≤ _
      omega
theorem TInv.fin {l : List Span} {rows : List (Span × Nat)} (h : TInv l rows []) : rows = tree l := by
  have := h.eq
  simpa using this
/-- whether a trace is whole, as the program asks it -/
theorem whole_is (l : List Span) : (whole l).isSome = (decide ((roots l).length = 1) && decide ((tree l).length = l.length)) := by
  unfold whole
  cases h : roots l with
  | nil => simp
  | cons x r =>
    cases r with
    | nil =>
      simp only [List.length_cons, List.length_nil, Nat.zero_add, decide_true, Bool.true_and]
      by_cases c : (tree l).length = l.length
      · simp [c]
      · simp [c]
    | cons y r => simp
theorem whole_root {l : List Span} {x : Span} (h : whole l = some x) : roots l = [x] := by
  unfold whole at h
  split at h
  · split at h
    · cases h
      assumption
    · cases h
  · cases h
end Tr
namespace Tr
open Sq40
/-! ## Alone, by a sweep -/
def cnt (lo hi : Nat) (p : Nat → Bool) : Nat := (List.range' lo (hi - lo)).countP p
theorem cnt_split {lo mid hi : Nat} (h1 : lo ≤ mid) (h2 : mid ≤ hi) (p : Nat → Bool) : cnt lo hi p = cnt lo mid p + cnt mid hi p := by
  unfold cnt
  have e : List.range' lo (hi - lo) = List.range' lo (mid - lo) ++ List.range' mid (hi - mid) := by
    have := List.range'_append_1 (s := lo) (m := mid - lo) (n := hi - mid)
    rw [show lo + (mid - lo) = mid by omega, show mid - lo + (hi - mid) = hi - lo by omega] at this
    exact this.symm
  rw [e, List.countP_append]
theorem cnt_congr {lo hi : Nat} {p q : Nat → Bool} (h : ∀ m, lo ≤ m → m < hi → p m = q m) : cnt lo hi p = cnt lo hi q := by
  unfold cnt
  refine List.countP_congr fun m hm => ?_
  rw [List.mem_range'_1] at hm
  rw [h m hm.1 (by omega)]
theorem cnt_all {lo hi : Nat} {p : Nat → Bool} (h : ∀ m, lo ≤ m → m < hi → p m = true) : cnt lo hi p = hi - lo := by
  unfold cnt
  have : (List.range' lo (hi - lo)).countP p = (List.range' lo (hi - lo)).length := by
    rw [List.countP_eq_length]
    intro m hm
    rw [List.mem_range'_1] at hm
    exact h m hm.1 (by omega)
  rw [this, List.length_range']
theorem cnt_none {lo hi : Nat} {p : Nat → Bool} (h : ∀ m, lo ≤ m → m < hi → p m = false) : cnt lo hi p = 0 := by
  unfold cnt
  rw [List.countP_eq_zero]
  intro m hm
  rw [List.mem_range'_1] at hm
  rw [h m hm.1 (by omega)]
  decide
theorem cnt_empty {lo hi : Nat} (h : hi ≤ lo) (p : Nat → Bool) : cnt lo hi p = 0 := cnt_none fun m h1 h2 => by omega
def unc (l : List Span) (m : Nat) : Bool := !l.any fun y => decide (y.from_ ≤ m) && decide (m < y.to)
theorem unc_iff {l : List Span} {m : Nat} : unc l m = true ↔ ∀ y ∈ l, ¬ (y.from_ ≤ m ∧ m < y.to) := by
  simp [unc, List.any_eq_false]
theorem unc_cons {y : Span} {l : List Span} {m : Nat} (h : ¬ (y.from_ ≤ m ∧ m < y.to)) : unc (y :: l) m = unc l m := by
  have : (decide (y.from_ ≤ m) && decide (m < y.to)) = false := by
    cases e : (decide (y.from_ ≤ m) && decide (m < y.to)) with
    | false => rfl
    | true =>
      rw [Bool.and_eq_true, decide_eq_true_eq, decide_eq_true_eq] at e
      exact absurd e h
  unfold unc
  rw [List.any_cons, this, Bool.false_or]
theorem unc_cons_in {y : Span} {l : List Span} {m : Nat} (h : y.from_ ≤ m ∧ m < y.to) : unc (y :: l) m = false := by
  unfold unc
  rw [List.any_cons]
  simp [h.1, h.2]
def sweep (to : Nat) : List Span → Nat → Nat → Nat
  | [], m, r => m + (to - r)
  | y :: l, m, r => sweep to l (m + (min y.from_ to - r)) (max r y.to)
theorem sweep_is (to : Nat) : ∀ (l : List Span) (m r : Nat), l.Pairwise (fun x y => x.from_ ≤ y.from_) → (∀ y ∈ l, y.from_ < y.to) → sweep to l m r = m + cnt r to (unc l)
  | [], m, r, _, _ => by
    have e : cnt r to (unc []) = to - r := cnt_all fun _ _ _ => rfl
    rw [e]
    rfl
  | y :: l, m, r, hs, hv => by
    have h1 : ∀ z ∈ l, y.from_ ≤ z.from_ := fun z hz => List.rel_of_pairwise_cons hs hz
    have hy : y.from_ < y.to := hv y List.mem_cons_self
    show sweep to l (m + (min y.from_ to - r)) (max r y.to) = _
    rw [sweep_is to l _ _ (List.Pairwise.of_cons hs) fun z hz => hv z (List.mem_cons_of_mem _ hz), Nat.add_assoc]
    congr 1
    by_cases c : to ≤ r
    · rw [cnt_empty (by omega), cnt_empty c]
      omega
    · have s1 : cnt r to (unc (y :: l)) = cnt r (max r (min y.from_ to)) (unc (y :: l)) + cnt (max r (min y.from_ to)) to (unc (y :: l)) := cnt_split (by omega) (by omega) _
      have s2 : cnt (max r (min y.from_ to)) to (unc (y :: l)) = cnt (max r (min y.from_ to)) (min to (max r y.to)) (unc (y :: l)) + cnt (min to (max r y.to)) to (unc (y :: l)) := cnt_split (by omega) (by omega) _
      have s3 : cnt r (max r (min y.from_ to)) (unc (y :: l)) = max r (min y.from_ to) - r := by
        refine cnt_all fun k a b => unc_iff.mpr fun z hz q => ?_
        rcases List.mem_cons.mp hz with rfl | hz
        · omega
        · have := h1 z hz
          omega
      have s4 : cnt (max r (min y.from_ to)) (min to (max r y.to)) (unc (y :: l)) = 0 := by
        refine cnt_none fun k a b => unc_cons_in ?_
        omega
      have s5 : cnt (min to (max r y.to)) to (unc (y :: l)) = cnt (min to (max r y.to)) to (unc l) := by
        refine cnt_congr fun k a b => unc_cons ?_
        omega
      have s6 : cnt (min to (max r y.to)) to (unc l) = cnt (max r y.to) to (unc l) := by
        by_cases d : max r y.to ≤ to
        · rw [Nat.min_eq_right d]
        · rw [cnt_empty (by omega), cnt_empty (by omega)]
      rw [s1, s2, s3, s4, s5, s6]
      omega
theorem unc_perm {l k : List Span} (h : l.Perm k) (m : Nat) : unc l m = unc k m := by
  unfold unc
  rw [h.any_eq]
theorem alone_cnt (l : List Span) (x : Span) : alone l x = cnt x.from_ x.to (unc (kids l x.id)) := by
  unfold alone cnt
  rw [List.range'_eq_map_range, List.countP_map, List.countP_eq_length_filter]
  rfl
/-- the moments alone, by the kids in the order of their beginnings -/
theorem alone_is {l ks : List Span} {x : Span} (hp : ks.Perm (kids l x.id)) (hs : ks.Pairwise (fun x y => x.from_ ≤ y.from_)) (hv : ∀ y ∈ l, y.from_ < y.to) :
    sweep x.to ks 0 x.from_ = alone l x := by
  rw [sweep_is _ _ _ _ hs fun y hy => hv y (mem_kids.mp (hp.mem_iff.mp hy)).1, Nat.zero_add, alone_cnt]
  exact cnt_congr fun m _ _ => unc_perm hp m
/-! ## The one that ended last -/
def lastStep (a t : Nat) (m : Option Span) (y : Span) : Option Span :=
  if a < y.to ∧ y.to ≤ t then (match m with | none => some y | some x => if x.to < y.to then some y else some x) else m
theorem lastBy_is {l : List Span} {a t : Nat} (hv : ∀ y ∈ l, y.from_ < y.to) : lastBy l a t = l.foldl (lastStep a t) none := by
  unfold lastBy
  rw [List.foldl_filter]
  generalize none = m
  revert m
  induction l with
  | nil => intro m; rfl
  | cons y l ih =>
    intro m
    have hy := hv y List.mem_cons_self
    rw [List.foldl_cons, List.foldl_cons, ih fun z hz => hv z (List.mem_cons_of_mem _ hz)]
    congr 1
    unfold lastStep
    by_cases c : a < y.to ∧ y.to ≤ t
    · have e : (decide (a < min y.to t) && (decide (y.to ≤ t) && decide (max y.from_ a < y.to))) = true := by
        rw [Bool.and_eq_true, Bool.and_eq_true, decide_eq_true_eq, decide_eq_true_eq, decide_eq_true_eq]
        omega
      rw [if_pos e, if_pos c]
      cases m <;> rfl
    · have e : (decide (a < min y.to t) && (decide (y.to ≤ t) && decide (max y.from_ a < y.to))) = false := by
        rw [Bool.eq_false_iff]
        intro q
        rw [Bool.and_eq_true, Bool.and_eq_true, decide_eq_true_eq, decide_eq_true_eq, decide_eq_true_eq] at q
        omega
      rw [e, if_neg c]
      rfl
theorem last_mem {a t : Nat} : ∀ (l : List Span) (m : Option Span) (y : Span), l.foldl (lastStep a t) m = some y → m = some y ∨ (y ∈ l ∧ a < y.to ∧ y.to ≤ t)
  | [], m, y, h => .inl h
  | x :: l, m, y, h => by
    rw [List.foldl_cons] at h
    rcases last_mem l _ y h with e | ⟨e1, e2⟩
    · unfold lastStep at e
      split at e
      · rename_i c
        cases m with
        | none =>
          cases e
          exact .inr ⟨List.mem_cons_self, c⟩
        | some z =>
          dsimp only at e
          split at e
          · cases e
            exact .inr ⟨List.mem_cons_self, c⟩
          · exact .inl e
      · exact .inl e
    · exact .inr ⟨List.mem_cons_of_mem _ e1, e2⟩
theorem lastBy_mem {l : List Span} {a t : Nat} {y : Span} (hv : ∀ y ∈ l, y.from_ < y.to) (h : lastBy l a t = some y) : y ∈ l ∧ a < y.to ∧ y.to ≤ t := by
  rw [lastBy_is hv] at h
  rcases last_mem l none y h with e | e
  · cases e
  · exact e
/-! ## How deep -/
def Dep (l : List Span) : Nat → Span → Prop
  | 0, x => x ∈ l ∧ x.up = none
  | d + 1, x => x ∈ l ∧ ∃ y, Dep l d y ∧ x.up = some y.id
theorem Dep.mem {l : List Span} {d : Nat} {x : Span} (h : Dep l d x) : x ∈ l := by
  cases d with
  | zero => exact h.1
  | succ d => exact h.1
theorem Dep.uniq {l : List Span} (hl : Srt l) : ∀ {d e : Nat} {x : Span}, Dep l d x → Dep l e x → d = e
  | 0, 0, x, _, _ => rfl
  | 0, e + 1, x, h, k => by
    obtain ⟨_, y, _, q⟩ := k
    rw [h.2] at q
    cases q
  | d + 1, 0, x, h, k => by
    obtain ⟨_, y, _, q⟩ := h
    rw [k.2] at q
    cases q
  | d + 1, e + 1, x, h, k => by
    obtain ⟨_, y, hy, q⟩ := h
    obtain ⟨_, z, hz, r⟩ := k
    rw [q] at r
    have : y = z := hl.inj hy.mem hz.mem (Option.some.inj r)
    subst this
    rw [Dep.uniq hl hy hz]
theorem Dep.anc {l : List Span} (hl : Srt l) : ∀ {d : Nat} {x : Span}, Dep l d x → ∃ as : List Span, as.length = d + 1 ∧ (as.map (·.id)).Nodup ∧ (∀ y ∈ as, y ∈ l) ∧ ∀ y ∈ as, ∃ k, k ≤ d ∧ Dep l k y
  | 0, x, h => ⟨[x], rfl, by simp, by simpa using h.mem, fun y hy => by
    rw [List.mem_singleton] at hy
    subst hy
    exact ⟨0, Nat.le_refl _, h⟩⟩
  | d + 1, x, h => by
    obtain ⟨hx, y, hy, q⟩ := h
    obtain ⟨as, h1, h2, h3, h4⟩ := Dep.anc hl hy
    refine ⟨x :: as, by simp [h1], ?_, ?_, ?_⟩
    · rw [List.map_cons, List.nodup_cons]
      refine ⟨fun q2 => ?_, h2⟩
      obtain ⟨z, hz, e⟩ := List.mem_map.mp q2
      have : z = x := hl.inj (h3 z hz) hx e
      subst this
      obtain ⟨k, hk, dk⟩ := h4 z hz
      have := Dep.uniq hl dk (show Dep l (d + 1) z from ⟨hx, y, hy, q⟩)
      omega
    · intro z hz
      rcases List.mem_cons.mp hz with rfl | hz
      · exact hx
      · exact h3 z hz
    · intro z hz
      rcases List.mem_cons.mp hz with rfl | hz
      · exact ⟨d + 1, Nat.le_refl _, hx, y, hy, q⟩
      · obtain ⟨k, hk, dk⟩ := h4 z hz
        exact ⟨k, by omega, dk⟩
theorem Dep.lt {l : List Span} (hl : Srt l) {d : Nat} {x : Span} (h : Dep l d x) : d < l.length := by
  obtain ⟨as, h1, h2, h3, _⟩ := Dep.anc hl h
  have q : as.map (·.id) ⊆ l.map (·.id) := by
    intro i hi
    obtain ⟨p, hp, rfl⟩ := List.mem_map.mp hi
    exact List.mem_map.mpr ⟨p, h3 p hp, rfl⟩
  have := List.Nodup.length_le_of_subset h2 q
  simp only [List.length_map] at this
  omega
/-! ## What a whole hung on -/
abbrev Part := Span × Nat × Nat
def walk (l : List Span) : Nat → Span → Nat → Nat → List Part × Nat
  | 0, _, _, _ => ([], 1)
  | f + 1, x, a, t => if t ≤ a then ([], 1) else match lastBy (kids l x.id) a t with
    | none => ([(x, a, t)], 1)
    | some y => ((walk l f x a (max y.from_ a)).1 ++ ((walk l f y (max y.from_ a) y.to).1 ++ if y.to < t then [(x, y.to, t)] else []), (walk l f x a (max y.from_ a)).2 + (walk l f y (max y.from_ a) y.to).2 + 1)
def st (p : Part) : Stretch := ⟨p.1.id, p.2.1, p.2.2⟩
theorem walk_path (l : List Span) : ∀ (f : Nat) (x : Span) (a t : Nat), (walk l f x a t).1.map st = path l f x a t
  | 0, _, _, _ => rfl
  | f + 1, x, a, t => by
    unfold walk path
    by_cases c : t ≤ a
    · rw [if_pos c, if_pos c]
      rfl
    · rw [if_neg c, if_neg c]
      cases lastBy (kids l x.id) a t with
      | none =>
        show [st (x, a, t)] = piece x.id a t
        unfold piece
        rw [if_pos (by omega)]
        rfl
      | some y =>
        dsimp only
        rw [List.map_append, List.map_append, walk_path l f, walk_path l f]
        congr 2
        unfold piece
        split <;> rfl
theorem walk_fuel {l : List Span} (hl : Srt l) (hv : ∀ y ∈ l, y.from_ < y.to) : ∀ (f g d : Nat) (x : Span) (a t : Nat), Dep l d x → t - a + (l.length - d) < f → t - a + (l.length - d) < g → walk l f x a t = walk l g x a t
  | 0, _, _, _, _, _, _, h, _ => by omega
  | _ + 1, 0, _, _, _, _, _, _, h => by omega
  | f + 1, g + 1, d, x, a, t, hd, h1, h2 => by
    unfold walk
    by_cases c : t ≤ a
    · rw [if_pos c, if_pos c]
    · rw [if_neg c, if_neg c]
      cases e : lastBy (kids l x.id) a t with
      | none => rfl
      | some y =>
        obtain ⟨m1, m2, m3⟩ := lastBy_mem (fun z hz => hv z (mem_kids.mp hz).1) e
        have m := mem_kids.mp m1
        have hy := hv y m.1
        have dy : Dep l (d + 1) y := ⟨m.1, x, hd, m.2⟩
        have := dy.lt hl
        dsimp only
        rw [walk_fuel hl hv f g d x a (max y.from_ a) hd (by omega) (by omega), walk_fuel hl hv f g (d + 1) y (max y.from_ a) y.to dy (by omega) (by omega)]
def walkX (l : List Span) (x : Span) (a t : Nat) : List Part × Nat := walk l (t - a + l.length + 1) x a t
theorem walkX_le {l : List Span} {x : Span} {a t : Nat} (h : t ≤ a) : walkX l x a t = ([], 1) := by
  unfold walkX walk
  rw [if_pos h]
theorem walkX_none {l : List Span} {x : Span} {a t : Nat} (h : ¬ t ≤ a) (e : lastBy (kids l x.id) a t = none) : walkX l x a t = ([(x, a, t)], 1) := by
  unfold walkX walk
  rw [if_neg h, e]
theorem walkX_some {l : List Span} (hl : Srt l) (hv : ∀ y ∈ l, y.from_ < y.to) {d : Nat} {x y : Span} {a t : Nat} (hd : Dep l d x) (h : ¬ t ≤ a) (e : lastBy (kids l x.id) a t = some y) :
    walkX l x a t = ((walkX l x a (max y.from_ a)).1 ++ ((walkX l y (max y.from_ a) y.to).1 ++ if y.to < t then [(x, y.to, t)] else []), (walkX l x a (max y.from_ a)).2 + (walkX l y (max y.from_ a) y.to).2 + 1) := by
  obtain ⟨m1, m2, m3⟩ := lastBy_mem (fun z hz => hv z (mem_kids.mp hz).1) e
  have m := mem_kids.mp m1
  have hy := hv y m.1
  have dy : Dep l (d + 1) y := ⟨m.1, x, hd, m.2⟩
  have := dy.lt hl
  have e1 : walk l (t - a + l.length) x a (max y.from_ a) = walkX l x a (max y.from_ a) := walk_fuel hl hv _ _ d x a _ hd (by omega) (by omega)
  have e2 : walk l (t - a + l.length) y (max y.from_ a) y.to = walkX l y (max y.from_ a) y.to := walk_fuel hl hv _ _ (d + 1) y _ _ dy (by omega) (by omega)
  rw [← e1, ← e2]
  show walk l (t - a + l.length + 1) x a t = _
  rw [walk, if_neg h, e]
theorem pathOf_is {l : List Span} (hl : Srt l) (hv : ∀ y ∈ l, y.from_ < y.to) {x : Span} (hd : Dep l 0 x) : pathOf l x = (walkX l x x.from_ x.to).1.map st := by
  have e : walkX l x x.from_ x.to = walk l (2 * (x.to - x.from_) + l.length + 2) x x.from_ x.to := walk_fuel hl hv _ _ 0 x _ _ hd (by omega) (by omega)
  rw [e, walk_path]
  rfl
theorem walk_len {l : List Span} (hv : ∀ y ∈ l, y.from_ < y.to) : ∀ (f : Nat) (x : Span) (a t : Nat), (walk l f x a t).1.length ≤ t - a
  | 0, _, _, _ => Nat.zero_le _
  | f + 1, x, a, t => by
    unfold walk
    by_cases c : t ≤ a
    · rw [if_pos c]
      exact Nat.zero_le _
    · rw [if_neg c]
      cases e : lastBy (kids l x.id) a t with
      | none =>
        show 1 ≤ t - a
        omega
      | some y =>
        obtain ⟨m1, m2, m3⟩ := lastBy_mem (fun z hz => hv z (mem_kids.mp hz).1) e
        have hy := hv y (mem_kids.mp m1).1
        have l1 := walk_len hv f x a (max y.from_ a)
        have l2 := walk_len hv f y (max y.from_ a) y.to
        dsimp only
        rw [List.length_append, List.length_append]
        split
        · rw [List.length_singleton]
          omega
        · rw [List.length_nil]
          omega
theorem walk_mem {l : List Span} (hv : ∀ y ∈ l, y.from_ < y.to) : ∀ (f : Nat) (x : Span) (a t : Nat), x ∈ l → ∀ p ∈ (walk l f x a t).1, p.1 ∈ l ∧ a ≤ p.2.1 ∧ p.2.1 < p.2.2 ∧ p.2.2 ≤ t
  | 0, _, _, _, _, p, hp => by cases hp
  | f + 1, x, a, t, hx, p, hp => by
    unfold walk at hp
    by_cases c : t ≤ a
    · rw [if_pos c] at hp
      cases hp
    · rw [if_neg c] at hp
      cases e : lastBy (kids l x.id) a t with
      | none =>
        rw [e] at hp
        have : p = (x, a, t) := List.mem_singleton.mp hp
        subst this
        exact ⟨hx, Nat.le_refl _, by show a < t; omega, Nat.le_refl _⟩
      | some y =>
        rw [e] at hp
        obtain ⟨m1, m2, m3⟩ := lastBy_mem (fun z hz => hv z (mem_kids.mp hz).1) e
        have hm := (mem_kids.mp m1).1
        have hy := hv y hm
        dsimp only at hp
        rcases List.mem_append.mp hp with hp | hp
        · obtain ⟨q1, q2, q3, q4⟩ := walk_mem hv f x a _ hx p hp
          exact ⟨q1, q2, q3, by omega⟩
        · rcases List.mem_append.mp hp with hp | hp
          · obtain ⟨q1, q2, q3, q4⟩ := walk_mem hv f y _ _ hm p hp
            exact ⟨q1, by omega, q3, by omega⟩
          · split at hp
            · have : p = (x, y.to, t) := List.mem_singleton.mp hp
              subst this
              exact ⟨hx, by show a ≤ y.to; omega, by assumption, Nat.le_refl _⟩
            · cases hp
/-- between two turns of the pile -/
structure HInv (l : List Span) (x0 : Span) (back wait : List Part) : Prop where
  eq : (wait.flatMap fun p => (walkX l p.1 p.2.1 p.2.2).1) ++ back.reverse = (walkX l x0 x0.from_ x0.to).1
  dep : ∀ i p, wait[i]? = some p → Dep l i p.1
def HInv.left (l : List Span) (wait : List Part) : Nat := (wait.map fun p => (walkX l p.1 p.2.1 p.2.2).2).sum
theorem HInv.start {l : List Span} {x : Span} (h : Dep l 0 x) : HInv l x [] [(x, x.from_, x.to)] := by
  refine ⟨by simp, fun i p e => ?_⟩
  cases i with
  | zero =>
    cases e
    exact h
  | succ i => cases e
theorem HInv.wlen {l : List Span} {x0 : Span} {back wait : List Part} (hl : Srt l) (h : HInv l x0 back wait) : wait.length ≤ l.length := by
  cases e : wait.length with
  | zero => omega
  | succ n =>
    have := (h.dep n wait[n] (by simp)).lt hl
    omega
theorem HInv.blen {l : List Span} {x0 : Span} {back wait : List Part} (hv : ∀ y ∈ l, y.from_ < y.to) (h : HInv l x0 back wait) : back.length ≤ x0.to - x0.from_ := by
  have := congrArg List.length h.eq
  rw [List.length_append, List.length_reverse] at this
  have := walk_len hv (x0.to - x0.from_ + l.length + 1) x0 x0.from_ x0.to
  unfold walkX at *
  omega
theorem HInv.skip {l : List Span} {x0 x : Span} {a t : Nat} {back w : List Part} (h : HInv l x0 back (w ++ [(x, a, t)])) (c : t ≤ a) : HInv l x0 back w := by
  refine ⟨?_, fun i p e => h.dep i p ?_⟩
  · have := h.eq
    rw [List.flatMap_append, List.flatMap_cons, List.flatMap_nil] at this
    dsimp only at this
    rw [walkX_le c] at this
    simpa using this
  · rw [List.getElem?_append_left]
    · exact e
    · exact (List.getElem?_eq_some_iff.mp e).1
theorem HInv.leaf {l : List Span} {x0 x : Span} {a t : Nat} {back w : List Part} (h : HInv l x0 back (w ++ [(x, a, t)])) (c : ¬ t ≤ a) (e : lastBy (kids l x.id) a t = none) : HInv l x0 (back ++ [(x, a, t)]) w := by
  refine ⟨?_, fun i p e => h.dep i p ?_⟩
  · have := h.eq
    rw [List.flatMap_append, List.flatMap_cons, List.flatMap_nil] at this
    dsimp only at this
    rw [walkX_none c e] at this
    simpa using this
  · rw [List.getElem?_append_left]
    · exact e
    · exact (List.getElem?_eq_some_iff.mp e).1
theorem HInv.split {l : List Span} (hl : Srt l) (hv : ∀ y ∈ l, y.from_ < y.to) {x0 x y : Span} {a t : Nat} {back w : List Part} (h : HInv l x0 back (w ++ [(x, a, t)])) (c : ¬ t ≤ a) (e : lastBy (kids l x.id) a t = some y) :
    HInv l x0 (back ++ if y.to < t then [(x, y.to, t)] else []) (w ++ [(x, a, max y.from_ a), (y, max y.from_ a, y.to)]) := by
  have hd : Dep l w.length x := h.dep w.length (x, a, t) (by simp)
  obtain ⟨m1, m2, m3⟩ := lastBy_mem (fun z hz => hv z (mem_kids.mp hz).1) e
  have m := mem_kids.mp m1
  refine ⟨?_, fun i p q => ?_⟩
  · rw [← h.eq]
    simp only [List.flatMap_append, List.flatMap_cons, List.flatMap_nil, List.reverse_append]
    rw [walkX_some hl hv hd c e]
    have r : (if y.to < t then [(x, y.to, t)] else [] : List Part).reverse = if y.to < t then [(x, y.to, t)] else [] := by split <;> rfl
    rw [r]
    simp only [List.append_assoc, List.append_nil, List.nil_append]
  · by_cases k : i < w.length
    · refine h.dep i p ?_
      rw [List.getElem?_append_left k] at q ⊢
      exact q
    · rw [List.getElem?_append_right (by omega)] at q
      have k2 : i - w.length = 0 ∨ i - w.length = 1 ∨ 2 ≤ i - w.length := by omega
      rcases k2 with k2 | k2 | k2
      · rw [k2] at q
        cases q
        have : i = w.length := by omega
        rw [this]
        exact hd
      · rw [k2] at q
        cases q
        have : i = w.length + 1 := by omega
        rw [this]
        exact ⟨m.1, x, hd, m.2⟩
      · rw [List.getElem?_eq_none (by simpa using k2)] at q
        cases q
theorem HInv.fin {l : List Span} {x0 : Span} {back : List Part} (h : HInv l x0 back []) : back.reverse = (walkX l x0 x0.from_ x0.to).1 := by
  have := h.eq
  simpa using this
theorem walk_pos (l : List Span) (f : Nat) (x : Span) (a t : Nat) : 0 < (walk l f x a t).2 := by
  cases f with
  | zero => exact Nat.one_pos
  | succ f =>
    unfold walk
    split
    · exact Nat.one_pos
    · split
      · exact Nat.one_pos
      · exact Nat.succ_pos _
theorem left_pop {l : List Span} {w : List Part} {p : Part} : HInv.left l w < HInv.left l (w ++ [p]) := by
  unfold HInv.left
  rw [List.map_append, List.sum_append]
  have := walk_pos l (p.2.2 - p.2.1 + l.length + 1) p.1 p.2.1 p.2.2
  simp only [List.map_cons, List.map_nil, List.sum_cons, List.sum_nil]
  unfold walkX
  omega
theorem left_split {l : List Span} (hl : Srt l) (hv : ∀ y ∈ l, y.from_ < y.to) {d : Nat} {x y : Span} {a t : Nat} {w : List Part} (hd : Dep l d x) (h : ¬ t ≤ a) (e : lastBy (kids l x.id) a t = some y) :
    HInv.left l (w ++ [(x, a, max y.from_ a), (y, max y.from_ a, y.to)]) < HInv.left l (w ++ [(x, a, t)]) := by
  unfold HInv.left
  rw [List.map_append, List.sum_append, List.map_append, List.sum_append]
  simp only [List.map_cons, List.map_nil, List.sum_cons, List.sum_nil]
  rw [walkX_some hl hv hd h e]
  dsimp only
  omega
end Tr
namespace Tr
open Sq40
/-! ## Lists -/
theorem perm_lift {α β : Type} (f : α → β) : ∀ {k : List β} {l : List α}, (l.map f).Perm k → ∃ l' : List α, l'.Perm l ∧ l'.map f = k
  | [], l, h => by
    have : l = [] := by
      have := h.length_eq
      simpa using this
    exact ⟨[], by rw [this], rfl⟩
  | b :: k, l, h => by
    have hb : b ∈ l.map f := h.mem_iff.mpr List.mem_cons_self
    obtain ⟨a, ha, rfl⟩ := List.mem_map.mp hb
    obtain ⟨l1, l2, rfl⟩ := List.append_of_mem ha
    have p : ((l1 ++ l2).map f).Perm k := by
      have q : ((l1 ++ a :: l2).map f).Perm (f a :: (l1 ++ l2).map f) := by
        rw [List.map_append, List.map_append, List.map_cons]
        exact List.perm_middle
      exact (q.symm.trans h).cons_inv
    obtain ⟨l', h1, h2⟩ := perm_lift f p
    exact ⟨a :: l', (h1.cons a).trans List.perm_middle.symm, by rw [List.map_cons, h2]⟩
theorem sort_unique {ys ks : List Int} {l : List Int} (h1 : ys.Perm ks) (h2 : ys.Pairwise (· ≤ ·)) (h3 : ks.Perm l) (h4 : l.Pairwise (· ≤ ·)) : ys = l :=
  List.Perm.eq_of_pairwise (fun a b _ _ p q => Int.le_antisymm p q) h2 h4 (h1.trans h3)
/-- a trace as it lies in the heap: its object, the object's own dict, the dict of its spans; its number; its spans in the order of telling, each with its place; when it was heard of last; 0, 1 (kept) or 2 (dropped) -/
structure TR where
  a : Nat
  dx : Nat
  ds : Nat
  n : Nat
  es : List (Span × Nat)
  heard : Nat
  verdict : Nat
/-- the spans of a trace with their places, in order -/
structure Pure (es : List (Span × Nat)) (l : List Span) : Prop where
  srt : Srt l
  perm : (es.map (·.1)).Perm l
  val : ∀ y ∈ l, y.from_ < y.to ∧ y.to ≤ 1000000 ∧ y.service < 16
  few : l.length ≤ 60
theorem Pure.len {es : List (Span × Nat)} {l : List Span} (h : Pure es l) : es.length = l.length := by
  have := h.perm.length_eq
  simpa using this
theorem Pure.nd {es : List (Span × Nat)} {l : List Span} (h : Pure es l) : (es.map (fun e => (e.1.id : Int))).Nodup := by
  have e : es.map (fun e => (e.1.id : Int)) = (es.map (·.1)).map (fun x => (x.id : Int)) := by
    rw [List.map_map]
    rfl
  rw [e]
  refine ((h.perm.map _).nodup_iff).mpr ?_
  unfold List.Nodup
  rw [List.pairwise_map]
  exact h.srt.imp fun q => by omega
theorem Pure.sorted {es : List (Span × Nat)} {l : List Span} (h : Pure es l) {ys : List Int} (h1 : ys.Perm (es.map (fun e => (e.1.id : Int)))) (h2 : ys.Pairwise (· ≤ ·)) : ys = l.map (fun x => (x.id : Int)) := by
  refine sort_unique h1 h2 (l := l.map (fun x => (x.id : Int))) ?_ ?_
  · have e : es.map (fun e => (e.1.id : Int)) = (es.map (·.1)).map (fun x => (x.id : Int)) := by
      rw [List.map_map]
      rfl
    rw [e]
    exact h.perm.map _
  · rw [List.pairwise_map]
    exact h.srt.imp fun q => by omega
end Tr
namespace Tr
open Sq40
/-! ## The house's lists -/
def LexLt (x y : Span) : Prop := x.trace < y.trace ∨ (x.trace = y.trace ∧ x.id < y.id)
def Lex (l : List Span) : Prop := l.Pairwise LexLt
theorem enter_perm (x : Span) : ∀ l : List Span, (enter x l).Perm (x :: l)
  | [] => List.Perm.refl _
  | y :: l => by
    unfold enter
    split
    · exact List.Perm.refl _
    · exact ((enter_perm x l).cons y).trans (List.Perm.swap x y l)
theorem enter_lex {x : Span} : ∀ {l : List Span}, Lex l → (∀ y ∈ l, ¬ (y.trace = x.trace ∧ y.id = x.id)) → Lex (enter x l)
  | [], _, _ => List.pairwise_singleton _ _
  | y :: l, h, hn => by
    have h1 : ∀ z ∈ l, LexLt y z := fun z hz => List.rel_of_pairwise_cons h hz
    have h2 : Lex l := List.Pairwise.of_cons h
    unfold enter
    split
    · rename_i c
      refine List.Pairwise.cons (fun z hz => ?_) h
      rcases List.mem_cons.mp hz with rfl | hz
      · exact c
      · have := h1 z hz
        unfold LexLt at *
        omega
    · rename_i c
      refine List.Pairwise.cons (fun z hz => ?_) (enter_lex h2 fun z hz => hn z (List.mem_cons_of_mem _ hz))
      rcases List.mem_cons.mp ((enter_perm x l).mem_iff.mp hz) with rfl | hz
      · have := hn y List.mem_cons_self
        unfold LexLt
        omega
      · exact h1 z hz
theorem mem_ofTrace {l : List Span} {t : Nat} {x : Span} : x ∈ ofTrace l t ↔ x ∈ l ∧ x.trace = t := by
  simp [ofTrace, List.mem_filter]
theorem Lex.srt {l : List Span} (h : Lex l) (t : Nat) : Srt (ofTrace l t) := by
  unfold Srt ofTrace
  refine List.Pairwise.imp_of_mem (fun {a b} ha hb q => ?_) (List.Pairwise.filter _ h)
  have e1 := (mem_ofTrace (l := l) (t := t)).mp ha
  have e2 := (mem_ofTrace (l := l) (t := t)).mp hb
  unfold LexLt at q
  omega
theorem ofTrace_enter (x : Span) (l : List Span) (t : Nat) : (ofTrace (enter x l) t).Perm (ofTrace (x :: l) t) := (enter_perm x l).filter _
theorem ofTrace_other {x : Span} {l : List Span} {t : Nat} (hl : Lex l) (hn : ∀ y ∈ l, ¬ (y.trace = x.trace ∧ y.id = x.id)) (h : ¬ x.trace = t) : ofTrace (enter x l) t = ofTrace l t := by
  have e : ofTrace (x :: l) t = ofTrace l t := by
    unfold ofTrace
    rw [List.filter_cons, if_neg (by simpa using h)]
  have p := ofTrace_enter x l t
  rw [e] at p
  refine List.Perm.eq_of_pairwise (le := fun (a b : Span) => a.id < b.id) (fun a b _ _ (p : a.id < b.id) (q : b.id < a.id) => absurd p (Nat.lt_asymm q)) ((enter_lex hl hn).srt t) (hl.srt t) p
theorem ofTrace_own {x : Span} {l : List Span} : (ofTrace (enter x l) x.trace).Perm (x :: ofTrace l x.trace) := by
  have p := ofTrace_enter x l x.trace
  have e : ofTrace (x :: l) x.trace = x :: ofTrace l x.trace := by
    unfold ofTrace
    rw [List.filter_cons, if_pos (by simp)]
  rw [e] at p
  exact p
theorem enter_length (x : Span) (l : List Span) : (enter x l).length = l.length + 1 := (enter_perm x l).length_eq
/-! ### put -/
def Asc {α : Type} (l : List (Nat × α)) : Prop := l.Pairwise fun x y => x.1 < y.1
theorem mem_put {α : Type} {x : Nat × α} : ∀ {l : List (Nat × α)}, Asc l → ∀ p, p ∈ put x l ↔ p = x ∨ (p ∈ l ∧ p.1 ≠ x.1)
  | [], _, p => by
    simp [put]
  | y :: l, h, p => by
    have h1 : ∀ z ∈ l, y.1 < z.1 := fun z hz => List.rel_of_pairwise_cons h hz
    unfold put
    split
    · rename_i c
      rw [List.mem_cons]
      refine ⟨fun q => ?_, fun q => ?_⟩
      · rcases q with q | q
        · exact .inl q
        · refine .inr ⟨q, ?_⟩
          rcases List.mem_cons.mp q with rfl | q
          · omega
          · have := h1 p q
            omega
      · rcases q with q | q
        · exact .inl q
        · exact .inr q.1
    · split
      · rename_i c d
        rw [List.mem_cons]
        refine ⟨fun q => ?_, fun q => ?_⟩
        · rcases q with q | q
          · exact .inl q
          · refine .inr ⟨List.mem_cons_of_mem _ q, ?_⟩
            have := h1 p q
            omega
        · rcases q with q | ⟨q, r⟩
          · exact .inl q
          · rcases List.mem_cons.mp q with rfl | q
            · exact absurd d.symm r
            · exact .inr q
      · rename_i c d
        rw [List.mem_cons, mem_put (List.Pairwise.of_cons h) p]
        refine ⟨fun q => ?_, fun q => ?_⟩
        · rcases q with rfl | q | q
          · exact .inr ⟨List.mem_cons_self, fun z => d z.symm⟩
          · exact .inl q
          · exact .inr ⟨List.mem_cons_of_mem _ q.1, q.2⟩
        · rcases q with q | ⟨q, r⟩
          · exact .inr (.inl q)
          · rcases List.mem_cons.mp q with rfl | q
            · exact .inl rfl
            · exact .inr (.inr ⟨q, r⟩)
theorem put_asc {α : Type} {x : Nat × α} : ∀ {l : List (Nat × α)}, Asc l → Asc (put x l)
  | [], _ => List.pairwise_singleton _ _
  | y :: l, h => by
    have h1 : ∀ z ∈ l, y.1 < z.1 := fun z hz => List.rel_of_pairwise_cons h hz
    have h2 : Asc l := List.Pairwise.of_cons h
    unfold put
    split
    · rename_i c
      refine List.Pairwise.cons (fun z hz => ?_) h
      rcases List.mem_cons.mp hz with rfl | hz
      · exact c
      · have := h1 z hz
        omega
    · split
      · rename_i c d
        refine List.Pairwise.cons (fun z hz => ?_) h2
        have := h1 z hz
        omega
      · rename_i c d
        refine List.Pairwise.cons (fun z hz => ?_) (put_asc h2)
        rcases (mem_put h2 z).mp hz with rfl | q
        · omega
        · exact h1 z q.1
theorem asc_ext {α : Type} {l m : List (Nat × α)} (hl : Asc l) (hm : Asc m) (h : ∀ p, p ∈ l ↔ p ∈ m) : l = m := by
  have nd : ∀ {l : List (Nat × α)}, Asc l → l.Nodup := fun {l} h => h.imp fun {a b} q z => by
    rw [z] at q
    omega
  have p : l.Perm m := (List.perm_ext_iff_of_nodup (nd hl) (nd hm)).mpr h
  exact List.Perm.eq_of_pairwise (le := fun (a b : Nat × α) => a.1 < b.1) (fun a b _ _ (p : a.1 < b.1) (q : b.1 < a.1) => absurd p (Nat.lt_asymm q)) hl hm p
theorem asc_keys {α : Type} {l : List (Nat × α)} (h : Asc l) : (l.map (·.1)).Pairwise (· < ·) := by
  rw [List.pairwise_map]
  exact h
theorem asc_uniq {α : Type} {l : List (Nat × α)} (h : Asc l) {p q : Nat × α} (hp : p ∈ l) (hq : q ∈ l) (e : p.1 = q.1) : p = q := by
  induction l with
  | nil => cases hp
  | cons y l ih =>
    have h1 : ∀ z ∈ l, y.1 < z.1 := fun z hz => List.rel_of_pairwise_cons h hz
    rcases List.mem_cons.mp hp with ep | hp <;> rcases List.mem_cons.mp hq with eq | hq
    · rw [ep, eq]
    · have := h1 q hq
      rw [ep] at e
      omega
    · have := h1 p hp
      rw [eq] at e
      omega
    · exact ih (List.Pairwise.of_cons h) hp hq
/-- many put one after another -/
theorem mem_puts {α : Type} (f : Nat → α) : ∀ (ds : List Nat) (l : List (Nat × α)), Asc l → Asc (ds.foldl (fun m t => put (t, f t) m) l) ∧ ∀ p, p ∈ ds.foldl (fun m t => put (t, f t) m) l ↔ (p.1 ∈ ds ∧ p.2 = f p.1) ∨ (p ∈ l ∧ p.1 ∉ ds)
  | [], l, h => ⟨h, fun p => by simp⟩
  | d :: ds, l, h => by
    have ih := mem_puts f ds (put (d, f d) l) (put_asc h)
    refine ⟨ih.1, fun p => ?_⟩
    rw [List.foldl_cons, ih.2 p, mem_put h p]
    by_cases c : p.1 ∈ ds
    · refine ⟨fun q => ?_, fun q => ?_⟩
      · rcases q with q | q
        · exact .inl ⟨List.mem_cons_of_mem _ c, q.2⟩
        · exact absurd c q.2
      · rcases q with q | q
        · exact .inl ⟨c, q.2⟩
        · exact absurd (List.mem_cons_of_mem _ c) q.2
    · refine ⟨fun q => ?_, fun q => ?_⟩
      · rcases q with q | ⟨q | q, r⟩
        · exact absurd q.1 c
        · rw [q]
          exact .inl ⟨List.mem_cons_self, rfl⟩
        · refine .inr ⟨q.1, fun z => ?_⟩
          rcases List.mem_cons.mp z with z | z
          · exact q.2 z
          · exact c z
      · rcases q with q | q
        · refine .inr ⟨.inl ?_, c⟩
          rcases List.mem_cons.mp q.1 with z | z
          · rw [← z, ← q.2]
          · exact absurd z c
        · refine .inr ⟨.inr ⟨q.1, fun z => q.2 (by rw [z]; exact List.mem_cons_self)⟩, c⟩
end Tr
namespace Tr
open Sq40
/-- the program's house: its four numbers, its traces in the order of their coming -/
structure HM where
  quiet : Nat
  slow : Nat
  each : Nat
  now : Nat
  ts : List TR
structure Rel (m : HM) (h : House) : Prop where
  q : h.quiet = m.quiet
  s : h.slow = m.slow
  e : h.every = m.each
  now : h.now = m.now
  epos : 0 < m.each
  lex : Lex h.spans
  perm : ∀ r ∈ m.ts, (r.es.map (·.1)).Perm (h.of_ r.n)
  val : ∀ x ∈ h.spans, x.from_ < x.to ∧ x.to ≤ 1000000 ∧ x.service < 16
  ne : ∀ r ∈ m.ts, r.es ≠ []
  nd : (m.ts.map (·.n)).Nodup
  all : ∀ x ∈ h.spans, ∃ r ∈ m.ts, r.n = x.trace
  cnt : h.spans.length = (m.ts.map fun r => r.es.length).sum
  most : h.spans.length ≤ 60
  hA : Asc h.heard
  hM : ∀ p, p ∈ h.heard ↔ ∃ r ∈ m.ts, p = (r.n, r.heard)
  dA : Asc h.decided
  dM : ∀ p, p ∈ h.decided ↔ ∃ r ∈ m.ts, r.verdict ≠ 0 ∧ p = (r.n, r.verdict == 1)
  vd : ∀ r ∈ m.ts, r.verdict ≤ 2
theorem of_len {h : House} {t : Nat} : (h.of_ t).length ≤ h.spans.length := List.length_filter_le _ _
theorem Rel.pure {m : HM} {h : House} (R : Rel m h) {r : TR} (hr : r ∈ m.ts) : Pure r.es (h.of_ r.n) :=
  ⟨R.lex.srt r.n, R.perm r hr, fun y hy => R.val y (mem_ofTrace.mp hy).1, Nat.le_trans of_len R.most⟩
theorem Rel.uniq {m : HM} {h : House} (R : Rel m h) {r r' : TR} (hr : r ∈ m.ts) (hr' : r' ∈ m.ts) (e : r.n = r'.n) : r = r' := by
  have nd := R.nd
  generalize m.ts = l at nd hr hr'
  induction l with
  | nil => cases hr
  | cons y l ih =>
    rw [List.map_cons, List.nodup_cons] at nd
    rcases List.mem_cons.mp hr with e1 | hr <;> rcases List.mem_cons.mp hr' with e2 | hr'
    · rw [e1, e2]
    · exact absurd (List.mem_map.mpr ⟨r', hr', by rw [← e, e1]⟩) nd.1
    · exact absurd (List.mem_map.mpr ⟨r, hr, by rw [e, e2]⟩) nd.1
    · exact ih nd.2 hr hr'
theorem Rel.some {m : HM} {h : House} (R : Rel m h) {r : TR} (hr : r ∈ m.ts) : h.of_ r.n ≠ [] := fun z => by
  have p := R.perm r hr
  rw [z] at p
  have := p.length_eq
  simp only [List.length_map, List.length_nil] at this
  exact R.ne r hr (List.length_eq_zero_iff.mp this)
theorem Rel.none {m : HM} {h : House} (R : Rel m h) {t : Nat} (hn : ∀ r ∈ m.ts, r.n ≠ t) : h.of_ t = [] := by
  cases q : h.of_ t with
  | nil => rfl
  | cons x l =>
    have hx : x ∈ ofTrace h.spans t := by
      show x ∈ h.of_ t
      rw [q]
      exact List.mem_cons_self
    obtain ⟨h1, h2⟩ := mem_ofTrace.mp hx
    obtain ⟨r, hr, e⟩ := R.all x h1
    exact absurd (e.trans h2) (hn r hr)
theorem Rel.few {m : HM} {h : House} (R : Rel m h) : m.ts.length ≤ 60 := by
  have h1 := R.cnt
  have h2 := R.most
  have : ∀ l : List TR, (∀ r ∈ l, r.es ≠ []) → l.length ≤ (l.map fun r => r.es.length).sum := by
    intro l
    induction l with
    | nil => intro _; simp
    | cons r l ih =>
      intro hl
      have a := ih fun q hq => hl q (List.mem_cons_of_mem _ hq)
      have b := hl r List.mem_cons_self
      have c : 0 < r.es.length := List.length_pos_iff.mpr b
      simp only [List.length_cons, List.map_cons, List.sum_cons]
      omega
  have := this m.ts R.ne
  omega
theorem rel_begin {q s e : Nat} (he : 0 < e) : Rel ⟨q, s, e, 0, []⟩ ⟨q, s, e, [], [], [], 0⟩ :=
  ⟨rfl, rfl, rfl, rfl, he, List.Pairwise.nil, fun _ h => (by cases h), fun _ h => (by cases h), fun _ h => (by cases h), List.nodup_nil, fun _ h => (by cases h), rfl, Nat.zero_le _, List.Pairwise.nil, fun p => by simp, List.Pairwise.nil, fun p => by simp, fun _ h => (by cases h)⟩
theorem rel_fresh : Rel ⟨10, 100, 10, 0, []⟩ fresh := rel_begin (by decide)
theorem sum_set : ∀ {l : List TR} {t : Nat} {g : TR → TR}, (l.map (·.n)).Nodup → (∃ r ∈ l, r.n = t) → (∀ r, r.n = t → (g r).es.length = r.es.length + 1) → (∀ r, r.n ≠ t → g r = r) →
    ((l.map g).map fun r => r.es.length).sum = (l.map fun r => r.es.length).sum + 1
  | [], t, g, _, h, _, _ => by
    obtain ⟨r, hr, _⟩ := h
    cases hr
  | y :: l, t, g, nd, h, h1, h2 => by
    rw [List.map_cons, List.nodup_cons] at nd
    simp only [List.map_cons, List.sum_cons]
    by_cases c : y.n = t
    · have rest : l.map g = l := by
        have : ∀ r ∈ l, g r = r := fun r hr => h2 r fun z => nd.1 (List.mem_map.mpr ⟨r, hr, by rw [z, c]⟩)
        calc l.map g = l.map id := List.map_congr_left this
          _ = l := List.map_id _
      rw [rest, h1 y c]
      omega
    · obtain ⟨r, hr, e⟩ := h
      rcases List.mem_cons.mp hr with rfl | hr
      · exact absurd e c
      · rw [sum_set nd.2 ⟨r, hr, e⟩ h1 h2, h2 y c]
        omega
/-- a span told of a trace that was told of already -/
def addOld (t now : Nat) (x : Span) (p : Nat) (r : TR) : TR := if r.n = t then { r with es := r.es ++ [(x, p)], heard := now } else r
theorem addOld_n (t now : Nat) (x : Span) (p : Nat) (r : TR) : (addOld t now x p r).n = r.n := by
  unfold addOld
  split <;> rfl
theorem addOld_v (t now : Nat) (x : Span) (p : Nat) (r : TR) : (addOld t now x p r).verdict = r.verdict := by
  unfold addOld
  split <;> rfl
theorem map_n {l : List TR} {g : TR → TR} (h : ∀ r, (g r).n = r.n) : (l.map g).map (·.n) = l.map (·.n) := by
  rw [List.map_map]
  exact List.map_congr_left fun r _ => h r
theorem rel_old {m : HM} {h : House} (R : Rel m h) {r : TR} (hr : r ∈ m.ts) {x : Span} {p : Nat} (hx : x.trace = r.n) (hv : x.from_ < x.to ∧ x.to ≤ 1000000 ∧ x.service < 16) (hn : ∀ y ∈ h.of_ r.n, y.id ≠ x.id) (hm : h.spans.length < 60) :
    Rel { m with ts := m.ts.map (addOld r.n m.now x p) } { h with spans := enter x h.spans, heard := put (r.n, h.now) h.heard } := by
  have hno : ∀ y ∈ h.spans, ¬ (y.trace = x.trace ∧ y.id = x.id) := fun y hy z => hn y (mem_ofTrace.mpr ⟨hy, z.1.trans hx⟩) z.2
  have hp := enter_perm x h.spans
  refine ⟨R.q, R.s, R.e, R.now, R.epos, enter_lex R.lex hno, ?_, ?_, ?_, ?_, ?_, ?_, ?_, put_asc R.hA, ?_, R.dA, ?_, ?_⟩
  · intro r' hr'
    obtain ⟨z, hz, rfl⟩ := List.mem_map.mp hr'
    rw [addOld_n]
    by_cases c : z.n = r.n
    · have e : (addOld r.n m.now x p z).es = z.es ++ [(x, p)] := by
        unfold addOld
        rw [if_pos c]
      rw [e, List.map_append]
      show (z.es.map (·.1) ++ [x]).Perm (ofTrace (enter x h.spans) z.n)
      have own := ofTrace_own (x := x) (l := h.spans)
      rw [hx, ← c] at own
      exact (List.perm_append_comm.trans ((R.perm z hz).cons x)).trans own.symm
    · have e : addOld r.n m.now x p z = z := by
        unfold addOld
        rw [if_neg c]
      rw [e]
      show (z.es.map (·.1)).Perm (ofTrace (enter x h.spans) z.n)
      rw [ofTrace_other R.lex hno (by rw [hx]; exact fun z => c z.symm)]
      exact R.perm z hz
  · intro y hy
    rcases List.mem_cons.mp (hp.mem_iff.mp hy) with rfl | hy
    · exact hv
    · exact R.val y hy
  · intro r' hr'
    obtain ⟨z, hz, rfl⟩ := List.mem_map.mp hr'
    unfold addOld
    split
    · simp
    · exact R.ne z hz
  · show ((m.ts.map (addOld r.n m.now x p)).map (·.n)).Nodup
    rw [map_n (addOld_n _ _ _ _)]
    exact R.nd
  · intro y hy
    rcases List.mem_cons.mp (hp.mem_iff.mp hy) with rfl | hy
    · exact ⟨_, List.mem_map.mpr ⟨r, hr, rfl⟩, by rw [addOld_n, hx]⟩
    · obtain ⟨z, hz, e⟩ := R.all y hy
      exact ⟨_, List.mem_map.mpr ⟨z, hz, rfl⟩, by rw [addOld_n, e]⟩
  · show (enter x h.spans).length = ((m.ts.map (addOld r.n m.now x p)).map fun r => r.es.length).sum
    rw [enter_length, R.cnt, sum_set (t := r.n) R.nd ⟨r, hr, rfl⟩ (fun z hz => ?_) fun z hz => ?_]
    · unfold addOld
      rw [if_pos hz, List.length_append]
      rfl
    · unfold addOld
      rw [if_neg hz]
  · show (enter x h.spans).length ≤ 60
    rw [enter_length]
    omega
  · intro k
    show k ∈ put (r.n, h.now) h.heard ↔ ∃ z ∈ m.ts.map (addOld r.n m.now x p), k = (z.n, z.heard)
    rw [mem_put R.hA]
    refine ⟨fun q => ?_, fun q => ?_⟩
    · rcases q with q | ⟨q1, q2⟩
      · refine ⟨_, List.mem_map.mpr ⟨r, hr, rfl⟩, ?_⟩
        rw [q, addOld_n]
        unfold addOld
        rw [if_pos rfl, R.now]
      · obtain ⟨z, hz, rfl⟩ := (R.hM k).mp q1
        refine ⟨_, List.mem_map.mpr ⟨z, hz, rfl⟩, ?_⟩
        unfold addOld
        rw [if_neg q2]
    · obtain ⟨z', hz', rfl⟩ := q
      obtain ⟨z, hz, rfl⟩ := List.mem_map.mp hz'
      by_cases c : z.n = r.n
      · left
        rw [addOld_n, c]
        unfold addOld
        rw [if_pos c, R.now]
      · right
        have e : addOld r.n m.now x p z = z := by
          unfold addOld
          rw [if_neg c]
        rw [e]
        exact ⟨(R.hM _).mpr ⟨z, hz, rfl⟩, c⟩
  · intro k
    rw [R.dM k]
    refine ⟨fun q => ?_, fun q => ?_⟩
    · obtain ⟨z, hz, h1, h2⟩ := q
      exact ⟨_, List.mem_map.mpr ⟨z, hz, rfl⟩, by rw [addOld_v]; exact h1, by rw [addOld_v, addOld_n]; exact h2⟩
    · obtain ⟨z', hz', h1, h2⟩ := q
      obtain ⟨z, hz, rfl⟩ := List.mem_map.mp hz'
      rw [addOld_v] at h1 h2
      rw [addOld_n] at h2
      exact ⟨z, hz, h1, h2⟩
  · intro r' hr'
    obtain ⟨z, hz, rfl⟩ := List.mem_map.mp hr'
    rw [addOld_v]
    exact R.vd z hz
/-- a span told of a trace that is new -/
theorem rel_new {m : HM} {h : House} (R : Rel m h) {a dx ds t : Nat} {x : Span} {p : Nat} (hx : x.trace = t) (hv : x.from_ < x.to ∧ x.to ≤ 1000000 ∧ x.service < 16) (hn : ∀ r ∈ m.ts, r.n ≠ t) (hm : h.spans.length < 60) :
    Rel { m with ts := m.ts ++ [⟨a, dx, ds, t, [(x, p)], m.now, 0⟩] } { h with spans := enter x h.spans, heard := put (t, h.now) h.heard } := by
  have h0 := R.none hn
  have hno : ∀ y ∈ h.spans, ¬ (y.trace = x.trace ∧ y.id = x.id) := fun y hy z => by
    have : y ∈ h.of_ t := mem_ofTrace.mpr ⟨hy, z.1.trans hx⟩
    rw [h0] at this
    cases this
  have hp := enter_perm x h.spans
  refine ⟨R.q, R.s, R.e, R.now, R.epos, enter_lex R.lex hno, ?_, ?_, ?_, ?_, ?_, ?_, ?_, put_asc R.hA, ?_, R.dA, ?_, ?_⟩
  · intro z hz
    rcases List.mem_append.mp hz with hz | hz
    · show (z.es.map (·.1)).Perm (ofTrace (enter x h.spans) z.n)
      rw [ofTrace_other R.lex hno (by rw [hx]; exact fun q => hn z hz q.symm)]
      exact R.perm z hz
    · rw [List.mem_singleton.mp hz]
      show [x].Perm (ofTrace (enter x h.spans) t)
      have own := ofTrace_own (x := x) (l := h.spans)
      rw [hx] at own
      rw [show ofTrace h.spans t = [] from h0] at own
      exact own.symm
  · intro y hy
    rcases List.mem_cons.mp (hp.mem_iff.mp hy) with rfl | hy
    · exact hv
    · exact R.val y hy
  · intro z hz
    rcases List.mem_append.mp hz with hz | hz
    · exact R.ne z hz
    · rw [List.mem_singleton.mp hz]
      simp
  · show ((m.ts ++ [(_ : TR)]).map (·.n)).Nodup
    rw [List.map_append, List.nodup_append]
    refine ⟨R.nd, by simp, fun u hu v hv z => ?_⟩
    obtain ⟨r, hr, e⟩ := List.mem_map.mp hu
    rw [List.map_cons, List.map_nil, List.mem_singleton] at hv
    exact hn r hr (e.trans (z.trans hv))
  · intro y hy
    rcases List.mem_cons.mp (hp.mem_iff.mp hy) with rfl | hy
    · exact ⟨_, List.mem_append_right _ (List.mem_singleton.mpr rfl), hx.symm⟩
    · obtain ⟨z, hz, e⟩ := R.all y hy
      exact ⟨z, List.mem_append_left _ hz, e⟩
  · show (enter x h.spans).length = ((m.ts ++ [(_ : TR)]).map fun r => r.es.length).sum
    rw [enter_length, R.cnt, List.map_append, List.sum_append]
    rfl
  · show (enter x h.spans).length ≤ 60
    rw [enter_length]
    omega
  · intro k
    show k ∈ put (t, h.now) h.heard ↔ ∃ z ∈ m.ts ++ [(_ : TR)], k = (z.n, z.heard)
    rw [mem_put R.hA]
    refine ⟨fun q => ?_, fun q => ?_⟩
    · rcases q with q | ⟨q1, q2⟩
      · exact ⟨_, List.mem_append_right _ (List.mem_singleton.mpr rfl), by rw [q, R.now]⟩
      · obtain ⟨z, hz, e⟩ := (R.hM k).mp q1
        exact ⟨z, List.mem_append_left _ hz, e⟩
    · obtain ⟨z, hz, rfl⟩ := q
      rcases List.mem_append.mp hz with hz | hz
      · exact .inr ⟨(R.hM _).mpr ⟨z, hz, rfl⟩, hn z hz⟩
      · left
        rw [List.mem_singleton.mp hz, R.now]
  · intro k
    rw [R.dM k]
    refine ⟨fun q => ?_, fun q => ?_⟩
    · obtain ⟨z, hz, q2⟩ := q
      exact ⟨z, List.mem_append_left _ hz, q2⟩
    · obtain ⟨z, hz, q1, q2⟩ := q
      rcases List.mem_append.mp hz with hz | hz
      · exact ⟨z, hz, q1, q2⟩
      · rw [List.mem_singleton.mp hz] at q1
        exact absurd rfl q1
  · intro z hz
    rcases List.mem_append.mp hz with hz | hz
    · exact R.vd z hz
    · rw [List.mem_singleton.mp hz]
      exact Nat.zero_le _
/-! ### a tick -/
def isDue (m : HM) (now : Nat) (r : TR) : Bool := r.verdict == 0 && decide (r.heard + m.quiet ≤ now)
/-- what is decided of a trace -/
def judge (m : HM) (l : List Span) (n : Nat) : Bool := (l.any fun x => x.failed) || (decide (m.slow ≤ long l) || n % m.each == 0)
def tickT (m : HM) (h : House) (now : Nat) (r : TR) : TR := if isDue m now r = true then { r with verdict := if judge m (h.of_ r.n) r.n = true then 1 else 2 } else r
theorem tickT_n (m : HM) (h : House) (now : Nat) (r : TR) : (tickT m h now r).n = r.n := by
  unfold tickT
  split <;> rfl
theorem tickT_es (m : HM) (h : House) (now : Nat) (r : TR) : (tickT m h now r).es = r.es := by
  unfold tickT
  split <;> rfl
theorem tickT_heard (m : HM) (h : House) (now : Nat) (r : TR) : (tickT m h now r).heard = r.heard := by
  unfold tickT
  split <;> rfl
theorem keeps_is {m : HM} {h : House} (R : Rel m h) (t : Nat) : h.keeps t = judge m (h.of_ t) t := by
  unfold House.keeps judge
  rw [R.s, R.e]
theorem Rel.undecided {m : HM} {h : House} (R : Rel m h) {r : TR} (hr : r ∈ m.ts) : (!(h.decided.any fun d => d.1 == r.n)) = (r.verdict == 0) := by
  cases c : h.decided.any fun d => d.1 == r.n with
  | true =>
    obtain ⟨d, hd, e⟩ := List.any_eq_true.mp c
    obtain ⟨z, hz, h1, rfl⟩ := (R.dM d).mp hd
    have : z = r := R.uniq hz hr (by simpa using e)
    subst this
    simpa using h1
  | false =>
    by_cases z : r.verdict = 0
    · simp [z]
    · exfalso
      have : (r.n, r.verdict == 1) ∈ h.decided := (R.dM _).mpr ⟨r, hr, z, rfl⟩
      have := List.any_eq_false.mp c _ this
      simp at this
/-- the traces in the order of their numbers -/
theorem heard_is {m : HM} {h : House} (R : Rel m h) {ts : List TR} (hp : ts.Perm m.ts) (ho : ts.Pairwise fun x y => x.n < y.n) : h.heard = ts.map fun r => (r.n, r.heard) := by
  refine asc_ext R.hA ?_ fun p => ?_
  · unfold Asc
    rw [List.pairwise_map]
    exact ho
  · rw [R.hM p, List.mem_map]
    exact ⟨fun ⟨r, h1, h2⟩ => ⟨r, hp.mem_iff.mpr h1, h2.symm⟩, fun ⟨r, h1, h2⟩ => ⟨r, hp.mem_iff.mp h1, h2.symm⟩⟩
theorem due_is {m : HM} {h : House} (R : Rel m h) {ts : List TR} (hp : ts.Perm m.ts) (ho : ts.Pairwise fun x y => x.n < y.n) (now : Nat) : h.due now = (ts.filter (isDue m now)).map (·.n) := by
  unfold House.due
  rw [heard_is R hp ho, List.filter_map, List.map_map]
  have e : ts.filter ((fun x => !(h.decided.any fun d => d.1 == x.1) && decide (x.2 + h.quiet ≤ now)) ∘ fun r : TR => (r.n, r.heard)) = ts.filter (isDue m now) := by
    refine List.filter_congr fun r hr => ?_
    show (!(h.decided.any fun d => d.1 == r.n) && decide (r.heard + h.quiet ≤ now)) = isDue m now r
    rw [R.undecided (hp.mem_iff.mp hr), R.q]
    rfl
  rw [e]
  rfl
theorem mem_due {m : HM} {h : House} (R : Rel m h) (now t : Nat) : t ∈ h.due now ↔ ∃ r ∈ m.ts, r.n = t ∧ isDue m now r = true := by
  unfold House.due
  rw [List.mem_map]
  refine ⟨fun ⟨p, hp, e⟩ => ?_, fun ⟨r, hr, e, hd⟩ => ?_⟩
  · obtain ⟨h1, h2⟩ := List.mem_filter.mp hp
    obtain ⟨r, hr, rfl⟩ := (R.hM p).mp h1
    refine ⟨r, hr, e, ?_⟩
    rw [R.undecided hr, R.q] at h2
    exact h2
  · refine ⟨(r.n, r.heard), List.mem_filter.mpr ⟨(R.hM _).mpr ⟨r, hr, rfl⟩, ?_⟩, e⟩
    rw [R.undecided hr, R.q]
    exact hd
theorem rel_tick {m : HM} {h : House} (R : Rel m h) (now : Nat) : Rel { m with now := now, ts := m.ts.map (tickT m h now) } (h.tick now) := by
  have ps := mem_puts h.keeps (h.due now) h.decided R.dA
  refine ⟨R.q, R.s, R.e, rfl, R.epos, R.lex, ?_, R.val, ?_, ?_, ?_, ?_, R.most, R.hA, ?_, ps.1, ?_, ?_⟩
  · intro z' hz'
    obtain ⟨z, hz, rfl⟩ := List.mem_map.mp hz'
    rw [tickT_es, tickT_n]
    exact R.perm z hz
  · intro z' hz'
    obtain ⟨z, hz, rfl⟩ := List.mem_map.mp hz'
    rw [tickT_es]
    exact R.ne z hz
  · show ((m.ts.map (tickT m h now)).map (·.n)).Nodup
    rw [map_n (tickT_n m h now)]
    exact R.nd
  · intro y hy
    obtain ⟨z, hz, e⟩ := R.all y hy
    exact ⟨_, List.mem_map.mpr ⟨z, hz, rfl⟩, by rw [tickT_n, e]⟩
  · show h.spans.length = ((m.ts.map (tickT m h now)).map fun r => r.es.length).sum
    rw [List.map_map, R.cnt]
    congr 1
    exact List.map_congr_left fun r _ => by
      show r.es.length = (tickT m h now r).es.length
      rw [tickT_es]
  · intro k
    show k ∈ h.heard ↔ ∃ z ∈ m.ts.map (tickT m h now), k = (z.n, z.heard)
    rw [R.hM k]
    refine ⟨fun ⟨z, hz, e⟩ => ⟨_, List.mem_map.mpr ⟨z, hz, rfl⟩, by rw [tickT_n, tickT_heard]; exact e⟩, fun ⟨z', hz', e⟩ => ?_⟩
    obtain ⟨z, hz, rfl⟩ := List.mem_map.mp hz'
    rw [tickT_n, tickT_heard] at e
    exact ⟨z, hz, e⟩
  · intro k
    show k ∈ (h.due now).foldl (fun m t => put (t, h.keeps t) m) h.decided ↔ ∃ z ∈ m.ts.map (tickT m h now), z.verdict ≠ 0 ∧ k = (z.n, z.verdict == 1)
    rw [ps.2 k]
    refine ⟨fun q => ?_, fun q => ?_⟩
    · rcases q with ⟨q1, q2⟩ | ⟨q1, q2⟩
      · obtain ⟨r, hr, e, hd⟩ := (mem_due R now k.1).mp q1
        refine ⟨_, List.mem_map.mpr ⟨r, hr, rfl⟩, ?_⟩
        rcases k with ⟨kt, kb⟩
        dsimp only at e q2
        subst e
        rw [q2, keeps_is R]
        unfold tickT
        rw [if_pos hd]
        dsimp only
        cases judge m (h.of_ r.n) r.n <;> exact ⟨by decide, rfl⟩
      · obtain ⟨r, hr, h1, h2⟩ := (R.dM k).mp q1
        refine ⟨_, List.mem_map.mpr ⟨r, hr, rfl⟩, ?_⟩
        have nd : ¬ isDue m now r = true := fun z => by
          unfold isDue at z
          rw [Bool.and_eq_true] at z
          exact h1 (by simpa using z.1)
        unfold tickT
        rw [if_neg nd]
        exact ⟨h1, h2⟩
    · obtain ⟨z', hz', h1, h2⟩ := q
      obtain ⟨r, hr, rfl⟩ := List.mem_map.mp hz'
      by_cases c : isDue m now r = true
      · left
        rw [tickT_n] at h2
        rw [h2]
        refine ⟨(mem_due R now r.n).mpr ⟨r, hr, rfl, c⟩, ?_⟩
        dsimp only
        rw [keeps_is R]
        unfold tickT
        rw [if_pos c]
        dsimp only
        cases judge m (h.of_ r.n) r.n <;> rfl
      · right
        have e : tickT m h now r = r := by
          unfold tickT
          rw [if_neg c]
        rw [e] at h1 h2
        refine ⟨(R.dM k).mpr ⟨r, hr, h1, h2⟩, fun z => ?_⟩
        obtain ⟨r', hr', e', hd'⟩ := (mem_due R now k.1).mp z
        rw [h2] at e'
        have := R.uniq hr' hr e'
        subst this
        exact c hd'
  · intro z' hz'
    obtain ⟨z, hz, rfl⟩ := List.mem_map.mp hz'
    unfold tickT
    split
    · dsimp only
      split <;> decide
    · exact R.vd z hz
end Tr
namespace Tr
open Sq40
/-! ## Steps of the specification -/
theorem step_span_bad {h : House} {t i u s a b f : Nat} (c : 1000000 < t ∨ 1000000 < i ∨ 1000001 < u ∨ 16 ≤ s ∨ 1000000 < b ∨ b ≤ a) : h.step (.span t i u s a b f) = (h, says (-1)) := if_pos c
theorem step_span_ok {h : House} {t i u s a b f : Nat} (c : ¬ (1000000 < t ∨ 1000000 < i ∨ 1000001 < u ∨ 16 ≤ s ∨ 1000000 < b ∨ b ≤ a)) :
    h.step (.span t i u s a b f) = (match (h.of_ t).find? fun y => y.id == i with
    | some y => if y = ⟨t, i, if u = 0 then none else some (u - 1), s, a, b, f != 0⟩ then (h, says (h.of_ t).length) else (h, says (-4))
    | none => if 60 ≤ h.spans.length then (h, says (-5)) else
      ({ h with spans := enter ⟨t, i, if u = 0 then none else some (u - 1), s, a, b, f != 0⟩ h.spans, heard := put (t, h.now) h.heard }, says (ofTrace (enter ⟨t, i, if u = 0 then none else some (u - 1), s, a, b, f != 0⟩ h.spans) t).length)) := if_neg c
theorem find_some {l : List Span} (hl : Srt l) {y : Span} (hy : y ∈ l) : l.find? (fun z => z.id == y.id) = some y := by
  cases q : l.find? (fun z => z.id == y.id) with
  | none =>
    have := List.find?_eq_none.mp q y hy
    simp at this
  | some z =>
    have h1 := List.mem_of_find?_eq_some q
    have h2 := List.find?_some q
    rw [hl.inj h1 hy (by simpa using h2)]
theorem find_none {l : List Span} {i : Nat} (h : ∀ y ∈ l, y.id ≠ i) : l.find? (fun z => z.id == i) = none := List.find?_eq_none.mpr fun y hy => by simpa using h y hy
/-- the tree has each span once at the most -/
theorem TInv.run {l : List Span} (hl : Srt l) : ∀ (k : Nat) (rows wait : List (Span × Nat)), TInv l rows wait → l.length - rows.length ≤ k → (tree l).length ≤ l.length
  | 0, rows, wait, h, hk => by
    have := h.len
    have e : wait = [] := List.length_eq_zero_iff.mp (by omega)
    subst e
    rw [← h.fin]
    omega
  | k + 1, rows, wait, h, hk => by
    rcases List.eq_nil_or_concat wait with rfl | ⟨w, t, rfl⟩
    · rw [← h.fin]
      have := h.len
      omega
    · rw [List.concat_eq_append] at h
      have hlen := h.len
      simp only [List.length_append, List.length_cons, List.length_nil] at hlen
      refine TInv.run hl k _ _ (TInv.step (x := t.1) (d := t.2) hl h) ?_
      simp only [List.length_append, List.length_cons, List.length_nil]
      omega
theorem tree_len {l : List Span} (hl : Srt l) : (tree l).length ≤ l.length := TInv.run hl _ _ _ (TInv.start hl) (Nat.le_refl _)
end Tr
namespace Tr
open Sq40
/-! ## The list of calls, read call by call -/
theorem shape_rows {p : Int} {n k : Nat} (h : PySq40.shape p = some (n, k)) : k = 0 := by
  unfold PySq40.shape at h
  by_cases c1 : p = 1
  · rw [if_pos c1] at h
    cases h
    rfl
  rw [if_neg c1] at h
  by_cases c2 : p = 2
  · rw [if_pos c2] at h
    cases h
    rfl
  rw [if_neg c2] at h
  by_cases c3 : p = 3
  · rw [if_pos c3] at h
    cases h
    rfl
  rw [if_neg c3] at h
  by_cases c4 : p = 4
  · rw [if_pos c4] at h
    cases h
    rfl
  rw [if_neg c4] at h
  by_cases c5 : p = 5
  · rw [if_pos c5] at h
    cases h
    rfl
  rw [if_neg c5] at h
  by_cases c6 : p = 6
  · rw [if_pos c6] at h
    cases h
    rfl
  rw [if_neg c6] at h
  by_cases c7 : p = 7
  · rw [if_pos c7] at h
    cases h
    rfl
  rw [if_neg c7] at h
  by_cases c8 : p = 8
  · rw [if_pos c8] at h
    cases h
    rfl
  rw [if_neg c8] at h
  by_cases c9 : p = 9
  · rw [if_pos c9] at h
    cases h
    rfl
  rw [if_neg c9] at h
  by_cases c10 : p = 10
  · rw [if_pos c10] at h
    cases h
    rfl
  rw [if_neg c10] at h
  by_cases c11 : p = 11
  · rw [if_pos c11] at h
    cases h
    rfl
  rw [if_neg c11] at h
  by_cases c12 : p = 12
  · rw [if_pos c12] at h
    cases h
    rfl
  rw [if_neg c12] at h
  cases h
theorem calls_nil {f : Nat} {cs : List (List (List Int))} (h : PyFlat.calls PySq40.shape f [] = some cs) : cs = [] := by
  cases f <;> (unfold PyFlat.calls at h; exact (Option.some.inj h).symm)
theorem calls_cons {f : Nat} {p : Int} {r : List Int} {cs : List (List (List Int))} (h : PyFlat.calls PySq40.shape f (p :: r) = some cs) :
    ∃ (n f' : Nat) (cs' : List (List (List Int))), PySq40.shape p = some (n, 0) ∧ n ≤ r.length ∧ cs = [p :: r.take n] :: cs' ∧ PyFlat.calls PySq40.shape f' (r.drop n) = some cs' := by
  cases f with
  | zero =>
    unfold PyFlat.calls at h
    cases h
  | succ f =>
    unfold PyFlat.calls at h
    cases hc : PyFlat.call PySq40.shape (p :: r) with
    | none =>
      rw [hc] at h
      cases h
    | some ct =>
      obtain ⟨c, t⟩ := ct
      rw [hc] at h
      dsimp only at h
      unfold PyFlat.call at hc
      dsimp only at hc
      cases hs : PySq40.shape p with
      | none =>
        rw [hs] at hc
        cases hc
      | some nk =>
        obtain ⟨n, k⟩ := nk
        have k0 := shape_rows hs
        subst k0
        rw [hs] at hc
        dsimp only at hc
        split at hc
        · cases hc
        · rename_i hlen
          have hr : PyFlat.rows 0 (r.drop n) = some ([], r.drop n) := rfl
          rw [hr] at hc
          dsimp only at hc
          cases hc
          cases hq : PyFlat.calls PySq40.shape f (r.drop n) with
          | none =>
            rw [hq] at h
            cases h
          | some cs' =>
            rw [hq] at h
            dsimp only at h
            exact ⟨n, f, cs', rfl, by omega, (Option.some.inj h).symm, hq⟩
/-- the call that its number and its numbers are -/
def callFor (p : Int) (as : List Int) : Option Sq40.Call := Sq40Neutral.callOf [p :: as]
theorem whole_one {p : Int} {as : List Int} (h : Sq40Neutral.asked1 (PySq40.whole [p :: as]) = true) : PySq40.whole [p :: as] = [p :: as] ∧ ∃ c, callFor p as = some c := by
  unfold PySq40.whole at *
  split at h <;> rename_i e <;> first
    | (cases e; exact ⟨rfl, _, rfl⟩)
    | skip
  refine ⟨rfl, ?_⟩
  unfold Sq40Neutral.asked1 at h
  split at h <;> rename_i e2 <;> first
    | (cases e2; exact ⟨_, rfl⟩)
    | cases h
def ansOf (o : Out) : List Int := o.value :: o.out
theorem step_one {h : House} {p : Int} {as : List Int} {c : Sq40.Call} (e : callFor p as = some c) : Sq40Neutral.step h [p :: as] = ((h.step c).1, ansOf (h.step c).2) := by
  unfold Sq40Neutral.step
  rw [show Sq40Neutral.callOf [p :: as] = some c from e]
  rfl
/-- between two calls -/
structure At (l : List Int) (place : Nat) (h : House) (out : List Int) : Prop where
  le : place ≤ l.length
  go : ∃ (f : Nat) (cs : List (List (List Int))), PyFlat.calls PySq40.shape f (l.drop place) = some cs ∧ (∀ c ∈ cs, Sq40Neutral.asked1 (PySq40.whole c) = true) ∧ PySq40.answers l = out ++ PyFlat.told (PyFlat.played Sq40Neutral.step h (cs.map PySq40.whole))
theorem told_cons (a : List Int) (l : List (List Int)) : PyFlat.told (a :: l) = (a.length : Int) :: a ++ PyFlat.told l := by
  unfold PyFlat.told
  rw [List.flatMap_cons]
theorem at_start {l : List Int} (ha : PySq40.answers_asked l = true) : At l 0 fresh [] ∧ (PySq40.answers l).length ≤ 10000000 := by
  unfold PySq40.answers_asked at ha
  split at ha
  · cases ha
  · rename_i raw hraw
    simp only [Bool.and_eq_true] at ha
    obtain ⟨⟨⟨⟨h1, h2⟩, h3⟩, h4⟩, h5⟩ := ha
    refine ⟨⟨Nat.zero_le _, l.length, raw, hraw, ?_, ?_⟩, ?_⟩
    · unfold Sq40Neutral.asked at h4
      simp only [Bool.and_eq_true, List.all_eq_true] at h4
      intro c hc
      exact h4.2.2.1 _ (List.mem_map.mpr ⟨c, hc, rfl⟩)
    · unfold PySq40.answers PySq40.calls
      rw [hraw]
      rfl
    · unfold PyFlat.short at h5
      exact of_decide_eq_true h5
theorem At.fin {l : List Int} {h : House} {out : List Int} (A : At l l.length h out) : PySq40.answers l = out := by
  obtain ⟨f, cs, h1, h2, h3⟩ := A.go
  rw [List.drop_length] at h1
  rw [calls_nil h1] at h3
  rw [h3]
  exact List.append_nil _
/-- one call -/
theorem At.step {l : List Int} {place : Nat} {h : House} {out : List Int} (A : At l place h out) (hp : place < l.length) :
    ∃ (p : Int) (n : Nat) (c : Sq40.Call), l[place]? = some p ∧ PySq40.shape p = some (n, 0) ∧ place + 1 + n ≤ l.length ∧ callFor p ((l.drop (place + 1)).take n) = some c ∧
      At l (place + 1 + n) (h.step c).1 (out ++ (((ansOf (h.step c).2).length : Int) :: ansOf (h.step c).2)) ∧ out.length + (1 + (ansOf (h.step c).2).length) ≤ (PySq40.answers l).length := by
  obtain ⟨f, cs, h1, h2, h3⟩ := A.go
  have hd : l.drop place = l[place] :: l.drop (place + 1) := List.drop_eq_getElem_cons hp
  rw [hd] at h1
  obtain ⟨n, f', cs', e1, e2, e3, e4⟩ := calls_cons h1
  subst e3
  obtain ⟨w1, c, w2⟩ := whole_one (h2 _ List.mem_cons_self)
  rw [List.length_drop] at e2
  rw [List.map_cons, w1] at h3
  have h4 : PySq40.answers l = out ++ ((((ansOf (h.step c).2).length : Int) :: ansOf (h.step c).2) ++ PyFlat.told (PyFlat.played Sq40Neutral.step (h.step c).1 (cs'.map PySq40.whole))) := by
    rw [h3]
    show out ++ PyFlat.told ((Sq40Neutral.step h [l[place] :: (l.drop (place + 1)).take n]).2 :: PyFlat.played Sq40Neutral.step (Sq40Neutral.step h [l[place] :: (l.drop (place + 1)).take n]).1 (cs'.map PySq40.whole)) = _
    rw [step_one w2, told_cons]
  refine ⟨l[place], n, c, List.getElem?_eq_getElem hp, e1, by omega, w2, ⟨by omega, f', cs', ?_, fun z hz => h2 z (List.mem_cons_of_mem _ hz), ?_⟩, ?_⟩
  · rw [List.drop_drop] at e4
    exact e4
  · rw [h4, List.append_assoc]
  · rw [h4]
    simp only [List.length_append, List.length_cons]
    omega
end Tr
namespace Tr
open Sq40
/-! ## fate, kept, slowest, calls, hung -/
theorem fate_of {m : HM} {h : House} (R : Rel m h) {r : TR} (hr : r ∈ m.ts) : h.fate r.n = if r.verdict = 0 then none else some (r.verdict == 1) := by
  unfold House.fate
  by_cases c : r.verdict = 0
  · rw [if_pos c]
    have : h.decided.find? (fun x => x.1 == r.n) = none := List.find?_eq_none.mpr fun d hd z => by
      obtain ⟨y, hy, h1, rfl⟩ := (R.dM d).mp hd
      have e : y = r := R.uniq hy hr (by simpa using z)
      subst e
      exact h1 c
    rw [this]
    rfl
  · rw [if_neg c]
    have hm : (r.n, r.verdict == 1) ∈ h.decided := (R.dM _).mpr ⟨r, hr, c, rfl⟩
    cases q : h.decided.find? (fun x => x.1 == r.n) with
    | none =>
      have := List.find?_eq_none.mp q _ hm
      simp at this
    | some d =>
      have h1 := List.mem_of_find?_eq_some q
      have h2 := List.find?_some q
      have e : d = (r.n, r.verdict == 1) := asc_uniq R.dA h1 hm (by simpa using h2)
      rw [e]
      rfl
theorem fate_no {m : HM} {h : House} (R : Rel m h) {t : Nat} (hn : ∀ r ∈ m.ts, r.n ≠ t) : h.fate t = none := by
  unfold House.fate
  have : h.decided.find? (fun x => x.1 == t) = none := List.find?_eq_none.mpr fun d hd z => by
    obtain ⟨y, hy, _, rfl⟩ := (R.dM d).mp hd
    exact hn y hy (by simpa using z)
  rw [this]
  rfl
/-- fate: the verdict as it stands -/
theorem step_fate {m : HM} {h : House} (R : Rel m h) {r : TR} (hr : r ∈ m.ts) : h.step (.fate r.n) = (h, says (r.verdict : Int)) := by
  show (match h.fate r.n with | none => (h, says (if (h.of_ r.n).isEmpty = true then -2 else 0)) | some b => (h, says (if b = true then 1 else 2))) = _
  rw [fate_of R hr]
  have hv := R.vd r hr
  have hne : (h.of_ r.n).isEmpty = false := by
    cases q : h.of_ r.n with
    | nil => exact absurd q (R.some hr)
    | cons x l => rfl
  by_cases c : r.verdict = 0
  · rw [if_pos c, c]
    dsimp only
    rw [hne]
    rfl
  · rw [if_neg c]
    by_cases d : r.verdict = 1
    · rw [d]
      rfl
    · have : r.verdict = 2 := by omega
      rw [this]
      rfl
theorem step_fate_no {m : HM} {h : House} (R : Rel m h) {t : Nat} (hn : ∀ r ∈ m.ts, r.n ≠ t) : h.step (.fate t) = (h, says (-2)) := by
  show (match h.fate t with | none => (h, says (if (h.of_ t).isEmpty = true then -2 else 0)) | some b => (h, says (if b = true then 1 else 2))) = _
  rw [fate_no R hn, R.none hn]
  rfl
/-- kept: by their numbers -/
theorem kept_is {m : HM} {h : House} (R : Rel m h) {ts : List TR} (hp : ts.Perm m.ts) (ho : ts.Pairwise fun x y => x.n < y.n) : h.kept = (ts.filter fun r => r.verdict == 1).map (·.n) := by
  have e : h.decided = (ts.filter fun r => !(r.verdict == 0)).map fun r => (r.n, r.verdict == 1) := by
    refine asc_ext R.dA ?_ fun p => ?_
    · unfold Asc
      rw [List.pairwise_map]
      exact List.Pairwise.filter _ ho
    · rw [R.dM p, List.mem_map]
      refine ⟨fun ⟨r, h1, h2, h3⟩ => ⟨r, List.mem_filter.mpr ⟨hp.mem_iff.mpr h1, by simpa using h2⟩, h3.symm⟩, fun ⟨r, h1, h2⟩ => ?_⟩
      obtain ⟨a1, a2⟩ := List.mem_filter.mp h1
      exact ⟨r, hp.mem_iff.mp a1, by simpa using a2, h2.symm⟩
  unfold House.kept
  rw [e, List.filter_map, List.map_map, List.filter_filter]
  have e2 : (ts.filter fun r => ((fun x : Nat × Bool => x.2) ∘ fun r : TR => (r.n, r.verdict == 1)) r && !(r.verdict == 0)) = ts.filter fun r => r.verdict == 1 := by
    refine List.filter_congr fun r _ => ?_
    show ((r.verdict == 1) && !(r.verdict == 0)) = (r.verdict == 1)
    by_cases c : r.verdict = 1
    · simp [c]
    · simp [c]
  rw [e2]
  rfl
/-! ### slowest -/
def Slow (x y : Nat × Nat) : Prop := y.2 < x.2 ∨ (x.2 = y.2 ∧ x.1 < y.1)
theorem rank_perm (x : Nat × Nat) : ∀ l : List (Nat × Nat), (rank x l).Perm (x :: l)
  | [] => List.Perm.refl _
  | y :: l => by
    unfold rank
    split
    · exact List.Perm.refl _
    · exact ((rank_perm x l).cons y).trans (List.Perm.swap x y l)
/-- x comes behind all of them -/
theorem rank_slow {x : Nat × Nat} : ∀ {l : List (Nat × Nat)}, l.Pairwise Slow → (∀ y ∈ l, y.1 < x.1) → (rank x l).Pairwise Slow
  | [], _, _ => List.pairwise_singleton _ _
  | y :: l, h, hn => by
    have h1 : ∀ z ∈ l, Slow y z := fun z hz => List.rel_of_pairwise_cons h hz
    unfold rank
    split
    · rename_i c
      refine List.Pairwise.cons (fun z hz => ?_) h
      rcases List.mem_cons.mp hz with rfl | hz
      · exact .inl c
      · have := h1 z hz
        unfold Slow at *
        omega
    · rename_i c
      refine List.Pairwise.cons (fun z hz => ?_) (rank_slow (List.Pairwise.of_cons h) fun z hz => hn z (List.mem_cons_of_mem _ hz))
      rcases List.mem_cons.mp ((rank_perm x l).mem_iff.mp hz) with rfl | hz
      · have := hn y List.mem_cons_self
        unfold Slow
        omega
      · exact h1 z hz
theorem ranks {l : List (Nat × Nat)} : ∀ {acc : List (Nat × Nat)}, acc.Pairwise Slow → (∀ y ∈ acc, ∀ x ∈ l, y.1 < x.1) → (l.map (·.1)).Pairwise (· < ·) → (l.foldl (fun m x => rank x m) acc).Pairwise Slow ∧ (l.foldl (fun m x => rank x m) acc).Perm (acc ++ l) := by
  induction l with
  | nil =>
    intro acc h _ _
    exact ⟨h, by rw [List.append_nil]; exact List.Perm.refl _⟩
  | cons x l ih =>
    intro acc h hn ho
    rw [List.map_cons] at ho
    have ho1 : ∀ z ∈ l, x.1 < z.1 := fun z hz => List.rel_of_pairwise_cons ho (List.mem_map.mpr ⟨z, hz, rfl⟩)
    have a := ih (acc := rank x acc) (rank_slow h fun y hy => hn y hy x List.mem_cons_self) (fun y hy z hz => by
      rcases List.mem_cons.mp ((rank_perm x acc).mem_iff.mp hy) with rfl | hy
      · exact ho1 z hz
      · exact hn y hy z (List.mem_cons_of_mem _ hz)) (List.Pairwise.of_cons ho)
    refine ⟨a.1, a.2.trans ?_⟩
    refine ((rank_perm x acc).append_right l).trans ?_
    exact List.perm_middle.symm
theorem slow_uniq {l k : List (Nat × Nat)} (h1 : l.Pairwise Slow) (h2 : k.Pairwise Slow) (p : l.Perm k) : l = k :=
  List.Perm.eq_of_pairwise (le := Slow) (fun a b _ _ (p : Slow a b) (q : Slow b a) => by
    unfold Slow at p q
    omega) h1 h2 p
/-- the slowest, by any arrangement that is right -/
theorem slowest_is {m : HM} {h : House} (R : Rel m h) {n : Nat} {l : List (Nat × Nat)} (hp : l.Perm (h.kept.map fun t => (t, long (h.of_ t)))) (hs : l.Pairwise Slow) :
    h.step (.slowest n) = (h, ⟨(l.take n).length, Sq40.ints ((l.take n).flatMap fun x => [x.1, x.2])⟩) := by
  have ho : ((h.kept.map fun t => (t, long (h.of_ t))).map (·.1)).Pairwise (· < ·) := by
    rw [List.map_map]
    have e : h.kept.map ((fun x : Nat × Nat => x.1) ∘ fun t => (t, long (h.of_ t))) = h.kept := by
      calc _ = h.kept.map id := List.map_congr_left fun _ _ => rfl
        _ = h.kept := List.map_id _
    rw [e]
    unfold House.kept
    rw [List.pairwise_map]
    exact List.Pairwise.filter _ R.dA
  have r := ranks (l := h.kept.map fun t => (t, long (h.of_ t))) (acc := []) List.Pairwise.nil (fun _ z => (by cases z)) ho
  have e : (h.kept.map fun t => (t, long (h.of_ t))).foldl (fun m x => rank x m) [] = l := slow_uniq r.1 hs (r.2.trans hp.symm)
  show (h, (⟨(((h.kept.map fun t => (t, long (h.of_ t))).foldl (fun (m : List (Nat × Nat)) x => rank x m) []).take n).length, Sq40.ints ((((h.kept.map fun t => (t, long (h.of_ t))).foldl (fun (m : List (Nat × Nat)) x => rank x m) []).take n).flatMap fun x => [x.1, x.2])⟩ : Out)) = _
  rw [e]
/-! ### hung -/
/-- how long some parts hung on a service -/
def svc (ps : List Part) (s : Nat) : Nat := (ps.map fun p => if p.1.service = s then p.2.2 - p.2.1 else 0).sum
theorem hung_sum {l : List Span} (hl : Srt l) (s : Nat) : ∀ {ps : List Part}, (∀ p ∈ ps, p.1 ∈ l) → ((ps.map st).filterMap fun p => if (l.any fun x => x.id == p.id && x.service == s) = true then some (p.to - p.from_) else none).sum = svc ps s
  | [], _ => rfl
  | p :: ps, h => by
    have ih := hung_sum hl s fun q hq => h q (List.mem_cons_of_mem _ hq)
    have hp := h p List.mem_cons_self
    have e : (l.any fun x => x.id == (st p).id && x.service == s) = decide (p.1.service = s) := by
      by_cases c : p.1.service = s
      · rw [decide_eq_true c]
        exact List.any_eq_true.mpr ⟨p.1, hp, by simp [st, c]⟩
      · rw [decide_eq_false c]
        refine List.any_eq_false.mpr fun x hx z => ?_
        rw [Bool.and_eq_true] at z
        have : x = p.1 := hl.inj hx hp (by simpa [st] using z.1)
        subst this
        exact c (by simpa using z.2)
    unfold svc
    rw [List.map_cons, List.filterMap_cons, List.map_cons, List.sum_cons]
    rw [e]
    by_cases c : p.1.service = s
    · rw [decide_eq_true c, if_pos rfl, if_pos c]
      dsimp only
      rw [List.sum_cons, ih]
      rfl
    · rw [decide_eq_false c, if_neg (by decide), if_neg c]
      show _ = 0 + _
      rw [Nat.zero_add]
      exact ih
theorem hung_is {l : List Span} (hl : Srt l) {ps : List Part} (hm : ∀ p ∈ ps, p.1 ∈ l) : hung l (ps.map st) = (List.range 16).filterMap fun s => if svc ps s = 0 then none else some (s, svc ps s) := by
  unfold hung
  show (List.range 16).filterMap _ = _
  congr 1
  funext s
  dsimp only
  rw [hung_sum hl s hm]
theorem hung_asc (ps : List Part) : Asc ((List.range 16).filterMap fun s => if svc ps s = 0 then none else some (s, svc ps s)) := by
  unfold Asc
  refine List.Pairwise.filterMap _ (R := (· < ·)) (fun a a' haa b hb b' hb' => ?_) (List.pairwise_lt_range)
  split at hb
  · cases hb
  · split at hb'
    · cases hb'
    · cases hb
      cases hb'
      exact haa
theorem hung_mem {ps : List Part} {p : Nat × Nat} : p ∈ ((List.range 16).filterMap fun s => if svc ps s = 0 then none else some (s, svc ps s)) ↔ p.1 < 16 ∧ p.2 = svc ps p.1 ∧ p.2 ≠ 0 := by
  rw [List.mem_filterMap]
  refine ⟨fun ⟨s, hs, e⟩ => ?_, fun ⟨h1, h2, h3⟩ => ⟨p.1, List.mem_range.mpr h1, ?_⟩⟩
  · split at e
    · cases e
    · rename_i c
      cases e
      exact ⟨List.mem_range.mp hs, rfl, c⟩
  · rw [if_neg (by rw [← h2]; exact h3), ← h2]
theorem step_hung (h : House) (t : Nat) : h.step (.hung t) = h.at_ t fun l => match whole l with | none => says (-6) | some x => ⟨(hung l (pathOf l x)).length, Sq40.ints ((hung l (pathOf l x)).flatMap fun y => [y.1, y.2])⟩ := rfl
theorem step_faults (h : House) (t : Nat) : h.step (.faults t) = h.at_ t fun l => ⟨(faults l).length, Sq40.ints ((faults l).map fun x => x.id)⟩ := rfl
theorem step_kept (h : House) : h.step .kept = (h, ⟨h.kept.length, Sq40.ints h.kept⟩) := rfl
theorem step_calls (h : House) : h.step .calls = (h, ⟨h.calls.length, Sq40.ints (h.calls.flatMap fun x => [x.1, x.2.1, x.2.2.1, x.2.2.2])⟩) := rfl
/-! ### calls -/
/-- the spans of service b right within one of service a, in one trace -/
def pairIn (l : List Span) (a b : Nat) : List Span := l.filter fun y => y.service == b && l.any fun x => y.up == some x.id && x.service == a
def pairAll (h : House) (a b : Nat) : List Span := h.kept.flatMap fun t => pairIn (h.of_ t) a b
theorem calls_is (h : House) : h.calls = (List.range 16).flatMap fun a => (List.range 16).filterMap fun b => if (pairAll h a b).isEmpty = true then none else some (a, b, (pairAll h a b).length, ((pairAll h a b).filter fun y => y.failed).length) := rfl
end Tr
namespace Tr
open Sq40
/-! ## Counting by keys -/
section
variable {α : Type} [DecidableEq α]
def tot (evs : List (α × Nat)) (a : α) : Nat := (evs.map fun e => if e.1 = a then e.2 else 0).sum
structure Seen (evs : List (α × Nat)) (ks : List α) : Prop where
  nd : ks.Nodup
  mem : ∀ a, a ∈ ks ↔ ∃ e ∈ evs, e.1 = a
def more (ks : List α) (a : α) : List α := if a ∈ ks then ks else ks ++ [a]
theorem Seen.nil : Seen ([] : List (α × Nat)) [] := ⟨List.nodup_nil, fun a => by simp⟩
theorem tot_snoc (evs : List (α × Nat)) (e : α × Nat) (a : α) : tot (evs ++ [e]) a = tot evs a + if e.1 = a then e.2 else 0 := by
  unfold tot
  rw [List.map_append, List.sum_append]
  simp
theorem tot_app (u v : List (α × Nat)) (a : α) : tot (u ++ v) a = tot u a + tot v a := by
  unfold tot
  rw [List.map_append, List.sum_append]
theorem tot_none {evs : List (α × Nat)} {a : α} (h : ∀ e ∈ evs, e.1 ≠ a) : tot evs a = 0 := by
  unfold tot
  induction evs with
  | nil => rfl
  | cons e l ih =>
    rw [List.map_cons, List.sum_cons, if_neg (h e List.mem_cons_self), ih fun z hz => h z (List.mem_cons_of_mem _ hz)]
theorem tot_pos {evs : List (α × Nat)} {a : α} (hp : ∀ e ∈ evs, 0 < e.2) (h : ∃ e ∈ evs, e.1 = a) : 0 < tot evs a := by
  unfold tot
  induction evs with
  | nil =>
    obtain ⟨e, he, _⟩ := h
    cases he
  | cons e l ih =>
    rw [List.map_cons, List.sum_cons]
    by_cases c : e.1 = a
    · rw [if_pos c]
      have := hp e List.mem_cons_self
      omega
    · obtain ⟨z, hz, hza⟩ := h
      rcases List.mem_cons.mp hz with rfl | hz
      · exact absurd hza c
      · have := ih (fun z hz => hp z (List.mem_cons_of_mem _ hz)) ⟨z, hz, hza⟩
        omega
theorem Seen.step {evs : List (α × Nat)} {ks : List α} (h : Seen evs ks) (e : α × Nat) : Seen (evs ++ [e]) (more ks e.1) := by
  unfold more
  by_cases c : e.1 ∈ ks
  · rw [if_pos c]
    refine ⟨h.nd, fun a => ?_⟩
    rw [h.mem a]
    refine ⟨fun ⟨z, hz, q⟩ => ⟨z, List.mem_append_left _ hz, q⟩, fun ⟨z, hz, q⟩ => ?_⟩
    rcases List.mem_append.mp hz with hz | hz
    · exact ⟨z, hz, q⟩
    · rw [List.mem_singleton.mp hz] at q
      exact (h.mem a).mp (q ▸ c)
  · rw [if_neg c]
    refine ⟨?_, fun a => ?_⟩
    · rw [List.nodup_append]
      refine ⟨h.nd, by simp, fun u hu v hv z => ?_⟩
      rw [List.mem_singleton.mp hv] at z
      exact c (z ▸ hu)
    · rw [List.mem_append, h.mem a, List.mem_singleton]
      refine ⟨fun q => ?_, fun ⟨z, hz, q⟩ => ?_⟩
      · rcases q with ⟨z, hz, q⟩ | q
        · exact ⟨z, List.mem_append_left _ hz, q⟩
        · exact ⟨e, List.mem_append_right _ (List.mem_singleton.mpr rfl), q.symm⟩
      · rcases List.mem_append.mp hz with hz | hz
        · exact .inl ⟨z, hz, q⟩
        · rw [List.mem_singleton.mp hz] at q
          exact .inr q.symm
theorem Seen.zero {evs : List (α × Nat)} {ks : List α} (h : Seen evs ks) {a : α} (c : a ∉ ks) : tot evs a = 0 := tot_none fun e he z => c ((h.mem a).mpr ⟨e, he, z⟩)
end
/-! ## hung -/
def svcEv (p : Part) : Nat × Nat := (p.1.service, p.2.2 - p.2.1)
theorem svc_tot (ps : List Part) (s : Nat) : svc ps s = tot (ps.map svcEv) s := by
  unfold svc tot
  rw [List.map_map]
  rfl
theorem few_below {ks : List Nat} (h1 : ks.Nodup) (h2 : ∀ s ∈ ks, s < 16) : ks.length ≤ 16 := by
  have := List.Nodup.length_le_of_subset h1 (show ks ⊆ List.range 16 from fun s hs => List.mem_range.mpr (h2 s hs))
  simpa using this
theorem hung_keys {l : List Span} (hl : Srt l) (hv : ∀ y ∈ l, y.service < 16) {ps : List Part} (hm : ∀ p ∈ ps, p.1 ∈ l) (hpos : ∀ p ∈ ps, p.2.1 < p.2.2) {ks : List Nat} (hk : Seen (ps.map svcEv) ks) {ts : List Nat} (hp : ts.Perm ks) (ho : ts.Pairwise (· < ·)) :
    hung l (ps.map st) = ts.map fun s => (s, tot (ps.map svcEv) s) := by
  rw [hung_is hl hm]
  refine asc_ext (hung_asc ps) ?_ fun q => ?_
  · unfold Asc
    rw [List.pairwise_map]
    exact ho
  · rw [hung_mem, List.mem_map]
    have hex : ∀ s, s ∈ ts ↔ ∃ p ∈ ps, p.1.service = s := fun s => by
      rw [hp.mem_iff, hk.mem s]
      refine ⟨fun ⟨e, he, q⟩ => ?_, fun ⟨p, hp, q⟩ => ⟨svcEv p, List.mem_map.mpr ⟨p, hp, rfl⟩, q⟩⟩
      obtain ⟨p, hp, rfl⟩ := List.mem_map.mp he
      exact ⟨p, hp, q⟩
    refine ⟨fun ⟨h1, h2, h3⟩ => ⟨q.1, ?_, ?_⟩, fun ⟨s, hs, e⟩ => ?_⟩
    · rw [hp.mem_iff]
      refine Classical.byContradiction fun c => h3 ?_
      rw [h2, svc_tot]
      exact hk.zero c
    · rw [← svc_tot, ← h2]
    · subst e
      obtain ⟨p, hpp, hps⟩ := (hex s).mp hs
      refine ⟨?_, (svc_tot ps s).symm, ?_⟩
      · show s < 16
        rw [← hps]
        exact hv _ (hm p hpp)
      · show tot (ps.map svcEv) s ≠ 0
        refine Nat.ne_of_gt (tot_pos (fun e he => ?_) ⟨svcEv p, List.mem_map.mpr ⟨p, hpp, rfl⟩, hps⟩)
        obtain ⟨z, hz, rfl⟩ := List.mem_map.mp he
        have := hpos z hz
        show 0 < z.2.2 - z.2.1
        omega
/-! ## faults -/
theorem faults_is (l : List Span) : faults l = (l.filter fun x => x.failed).filter fun x => !((l.filter fun x => x.failed).any fun y => y.up == some x.id) := by
  unfold faults
  rw [List.filter_filter]
  refine List.filter_congr fun x _ => ?_
  have e : ((kids l x.id).any fun y => y.failed) = ((l.filter fun x => x.failed).any fun y => y.up == some x.id) := by
    unfold kids
    rw [List.any_filter, List.any_filter]
    congr 1
    funext y
    exact Bool.and_comm _ _
  rw [e, Bool.and_comm]
/-! ## calls -/
def around (l : List Span) (y : Span) : Option Span := match y.up with
  | none => none
  | some i => l.find? fun x => x.id == i
/-- what the spans of a trace tell of pairs of services -/
def evP (l : List Span) (y : Span) : Option ((Nat × Nat) × Bool) := (around l y).map fun x => ((x.service, y.service), y.failed)
def evsP (l : List Span) : List ((Nat × Nat) × Bool) := l.filterMap (evP l)
def one (e : (Nat × Nat) × Bool) : (Nat × Nat) × Nat := (e.1, 1)
def bad (e : (Nat × Nat) × Bool) : (Nat × Nat) × Nat := (e.1, if e.2 = true then 1 else 0)
theorem around_some {l : List Span} (hl : Srt l) {x y : Span} (hx : x ∈ l) (e : y.up = some x.id) : around l y = some x := by
  unfold around
  rw [e]
  dsimp only
  cases q : l.find? (fun z => z.id == x.id) with
  | none =>
    have := List.find?_eq_none.mp q x hx
    simp at this
  | some z =>
    have h1 := List.mem_of_find?_eq_some q
    have h2 := List.find?_some q
    rw [hl.inj h1 hx (by simpa using h2)]
theorem around_of {l : List Span} {x y : Span} (h : around l y = some x) : x ∈ l ∧ y.up = some x.id := by
  unfold around at h
  split at h
  · cases h
  · rename_i i e
    have h1 := List.mem_of_find?_eq_some h
    have h2 := List.find?_some h
    refine ⟨h1, ?_⟩
    rw [e]
    congr 1
    have : x.id = i := by simpa using h2
    exact this.symm
theorem pair_any {l : List Span} (hl : Srt l) (y : Span) (a b : Nat) : (y.service == b && l.any fun x => y.up == some x.id && x.service == a) = decide (∃ e, evP l y = some e ∧ e.1 = (a, b)) := by
  by_cases c : ∃ e, evP l y = some e ∧ e.1 = (a, b)
  · rw [decide_eq_true c]
    obtain ⟨e, h1, h2⟩ := c
    unfold evP at h1
    cases q : around l y with
    | none =>
      rw [q] at h1
      cases h1
    | some x =>
      rw [q] at h1
      have h3 : ((x.service, y.service), y.failed) = e := Option.some.inj h1
      subst h3
      have h4 : x.service = a ∧ y.service = b := by simpa using h2
      obtain ⟨m1, m2⟩ := around_of q
      rw [Bool.and_eq_true]
      refine ⟨by simp [h4.2], List.any_eq_true.mpr ⟨x, m1, ?_⟩⟩
      rw [m2]
      simp [h4.1]
  · rw [decide_eq_false c]
    cases q : (y.service == b && l.any fun x => y.up == some x.id && x.service == a) with
    | false => rfl
    | true =>
      exfalso
      rw [Bool.and_eq_true] at q
      obtain ⟨x, hx, hq⟩ := List.any_eq_true.mp q.2
      rw [Bool.and_eq_true] at hq
      have h1 : y.up = some x.id := by simpa using hq.1
      have h2 : x.service = a := by simpa using hq.2
      have h3 : y.service = b := by simpa using q.1
      refine c ⟨((x.service, y.service), y.failed), ?_, by rw [h2, h3]⟩
      unfold evP
      rw [around_some hl hx h1]
      rfl
theorem tot_cons {α : Type} [DecidableEq α] (e : α × Nat) (evs : List (α × Nat)) (a : α) : tot (e :: evs) a = (if e.1 = a then e.2 else 0) + tot evs a := by
  unfold tot
  rw [List.map_cons, List.sum_cons]
/-- of one trace -/
theorem pair_tot {l : List Span} (hl : Srt l) (a b : Nat) : (pairIn l a b).length = tot ((evsP l).map one) (a, b) ∧ ((pairIn l a b).filter fun y => y.failed).length = tot ((evsP l).map bad) (a, b) := by
  have gen : ∀ k : List Span, ((k.filter fun y => decide (∃ e, evP l y = some e ∧ e.1 = (a, b))).length = tot ((k.filterMap (evP l)).map one) (a, b)) ∧ (((k.filter fun y => decide (∃ e, evP l y = some e ∧ e.1 = (a, b))).filter fun y => y.failed).length = tot ((k.filterMap (evP l)).map bad) (a, b)) := by
    intro k
    induction k with
    | nil => exact ⟨rfl, rfl⟩
    | cons y k ih =>
      cases q : evP l y with
      | none =>
        have h1 : ¬ ∃ e, evP l y = some e ∧ e.1 = (a, b) := fun ⟨e, z, _⟩ => by
          rw [q] at z
          cases z
        rw [List.filter_cons, if_neg (by rw [decide_eq_false h1]; decide), List.filterMap_cons_none q]
        exact ih
      | some e =>
        rw [List.filterMap_cons_some q, List.map_cons, List.map_cons, tot_cons, tot_cons]
        have hf : e.2 = y.failed := by
          unfold evP at q
          cases z : around l y with
          | none =>
            rw [z] at q
            cases q
          | some x =>
            rw [z] at q
            have := Option.some.inj q
            rw [← this]
        by_cases c : e.1 = (a, b)
        · rw [List.filter_cons, if_pos (decide_eq_true ⟨e, q, c⟩), List.filter_cons]
          refine ⟨?_, ?_⟩
          · rw [List.length_cons, ih.1]
            show _ = (if e.1 = (a, b) then 1 else 0) + _
            rw [if_pos c]
            omega
          · show _ = (if e.1 = (a, b) then (if e.2 = true then 1 else 0) else 0) + _
            rw [if_pos c, hf]
            by_cases d : y.failed = true
            · rw [if_pos d, if_pos d, List.length_cons, ih.2]
              omega
            · rw [if_neg d, if_neg d, ih.2]
              omega
        · have h1 : ¬ ∃ e, evP l y = some e ∧ e.1 = (a, b) := fun ⟨z, z1, z2⟩ => by
            rw [q] at z1
            exact c (by rw [Option.some.inj z1]; exact z2)
          rw [List.filter_cons, if_neg (by rw [decide_eq_false h1]; decide)]
          refine ⟨?_, ?_⟩
          · show _ = (if e.1 = (a, b) then 1 else 0) + _
            rw [if_neg c, ih.1]
            omega
          · show _ = (if e.1 = (a, b) then (if e.2 = true then 1 else 0) else 0) + _
            rw [if_neg c, ih.2]
            omega
  have e : pairIn l a b = l.filter fun y => decide (∃ e, evP l y = some e ∧ e.1 = (a, b)) := by
    unfold pairIn
    refine List.filter_congr fun y _ => ?_
    exact pair_any hl y a b
  rw [e]
  exact gen l
/-- of all that are kept -/
def evsAll (ls : List (List Span)) : List ((Nat × Nat) × Bool) := ls.flatMap evsP
theorem pairs_tot : ∀ {ls : List (List Span)}, (∀ l ∈ ls, Srt l) → ∀ (a b : Nat), (ls.flatMap fun l => pairIn l a b).length = tot ((evsAll ls).map one) (a, b) ∧ ((ls.flatMap fun l => pairIn l a b).filter fun y => y.failed).length = tot ((evsAll ls).map bad) (a, b)
  | [], _, a, b => ⟨rfl, rfl⟩
  | l :: ls, h, a, b => by
    obtain ⟨h1, h2⟩ := pair_tot (h l List.mem_cons_self) a b
    obtain ⟨i1, i2⟩ := pairs_tot (fun k hk => h k (List.mem_cons_of_mem _ hk)) a b
    unfold evsAll at *
    rw [List.flatMap_cons, List.flatMap_cons, List.map_append, List.map_append, tot_app, tot_app, List.filter_append, List.length_append, List.length_append]
    exact ⟨by rw [h1, i1], by rw [h2, i2]⟩
/-- first by the first, then by the second -/
def PLt (x y : Nat × Nat) : Prop := x.1 < y.1 ∨ (x.1 = y.1 ∧ x.2 < y.2)
theorem plt_ext {l m : List (Nat × Nat × Nat × Nat)} (hl : l.Pairwise fun x y => PLt (x.1, x.2.1) (y.1, y.2.1)) (hm : m.Pairwise fun x y => PLt (x.1, x.2.1) (y.1, y.2.1)) (h : ∀ p, p ∈ l ↔ p ∈ m) : l = m := by
  have nd : ∀ {k : List (Nat × Nat × Nat × Nat)}, (k.Pairwise fun x y => PLt (x.1, x.2.1) (y.1, y.2.1)) → k.Nodup := fun hk => hk.imp fun {x y} q z => by
    subst z
    unfold PLt at q
    omega
  refine List.Perm.eq_of_pairwise (le := fun x y => PLt (x.1, x.2.1) (y.1, y.2.1)) (fun a b _ _ p q => ?_) hl hm ((List.perm_ext_iff_of_nodup (nd hl) (nd hm)).mpr h)
  unfold PLt at p q
  dsimp only at p q
  omega
theorem calls_keys {h : House} {ls : List (List Span)} (hls : ls = h.kept.map fun t => h.of_ t) (hs : ∀ l ∈ ls, Srt l) (hv : ∀ l ∈ ls, ∀ y ∈ l, y.service < 16) {ks : List (Nat × Nat)} (hk : Seen ((evsAll ls).map one) ks) {ts : List (Nat × Nat)} (hp : ts.Perm ks) (ho : ts.Pairwise PLt) :
    h.calls = ts.map fun p => (p.1, p.2, tot ((evsAll ls).map one) p, tot ((evsAll ls).map bad) p) := by
  have pa : ∀ a b, pairAll h a b = ls.flatMap fun l => pairIn l a b := fun a b => by
    unfold pairAll
    rw [hls, List.flatMap_map]
  have hmem : ∀ p : Nat × Nat, p ∈ ts ↔ p.1 < 16 ∧ p.2 < 16 ∧ (pairAll h p.1 p.2).isEmpty = false := fun p => by
    have h1 : (pairAll h p.1 p.2).isEmpty = false ↔ tot ((evsAll ls).map one) p ≠ 0 := by
      rw [pa, ← (pairs_tot hs p.1 p.2).1]
      cases ls.flatMap fun l => pairIn l p.1 p.2 with
      | nil => simp
      | cons x k => simp
    rw [h1, hp.mem_iff]
    refine ⟨fun q => ?_, fun ⟨_, _, q⟩ => Classical.byContradiction fun c => q (hk.zero c)⟩
    obtain ⟨e, he, hep⟩ := (hk.mem p).mp q
    have hz : tot ((evsAll ls).map one) p ≠ 0 := Nat.ne_of_gt (tot_pos (fun z hz => by
      obtain ⟨y, _, rfl⟩ := List.mem_map.mp hz
      exact Nat.one_pos) ⟨e, he, hep⟩)
    obtain ⟨z, hz1, rfl⟩ := List.mem_map.mp he
    unfold evsAll at hz1
    obtain ⟨l, hl, hz2⟩ := List.mem_flatMap.mp hz1
    unfold evsP at hz2
    obtain ⟨y, hy, hz3⟩ := List.mem_filterMap.mp hz2
    unfold evP at hz3
    cases w : around l y with
    | none =>
      rw [w] at hz3
      cases hz3
    | some x =>
      rw [w] at hz3
      have e3 : ((x.service, y.service), y.failed) = z := Option.some.inj hz3
      subst e3
      have e4 : (x.service, y.service) = p := hep
      subst e4
      exact ⟨hv l hl x (around_of w).1, hv l hl y hy, hz⟩
  rw [calls_is]
  refine plt_ext ?_ ?_ fun q => ?_
  · rw [List.pairwise_flatMap]
    refine ⟨fun a _ => ?_, ?_⟩
    · refine List.Pairwise.filterMap _ (R := (· < ·)) (fun b b' hbb x hx x' hx' => ?_) List.pairwise_lt_range
      split at hx
      · cases hx
      · split at hx'
        · cases hx'
        · cases hx
          cases hx'
          exact .inr ⟨rfl, hbb⟩
    · refine List.pairwise_lt_range.imp fun {a a'} haa x hx y hy => ?_
      obtain ⟨b, _, e1⟩ := List.mem_filterMap.mp hx
      obtain ⟨b', _, e2⟩ := List.mem_filterMap.mp hy
      split at e1
      · cases e1
      · split at e2
        · cases e2
        · cases e1
          cases e2
          exact .inl haa
  · rw [List.pairwise_map]
    exact ho
  · rw [List.mem_flatMap, List.mem_map]
    refine ⟨fun ⟨a, ha, hq⟩ => ?_, fun ⟨p, hpt, e⟩ => ?_⟩
    · obtain ⟨b, hb, e⟩ := List.mem_filterMap.mp hq
      split at e
      · cases e
      · rename_i c
        cases e
        refine ⟨(a, b), (hmem (a, b)).mpr ⟨List.mem_range.mp ha, List.mem_range.mp hb, by simpa using c⟩, ?_⟩
        rw [pa, (pairs_tot hs a b).1, (pairs_tot hs a b).2]
    · subst e
      obtain ⟨h1, h2, h3⟩ := (hmem p).mp hpt
      refine ⟨p.1, List.mem_range.mpr h1, List.mem_filterMap.mpr ⟨p.2, List.mem_range.mpr h2, ?_⟩⟩
      rw [if_neg (by rw [h3]; decide), pa, (pairs_tot hs p.1 p.2).1, (pairs_tot hs p.1 p.2).2]
end Tr
namespace Tr
open PySem PySem.Spec PyProof.Rows L2
/-! ## The text -/
def top (i : Nat) : Stmt := PySem.Challenge.pw_tracehouse_s01_answers.main.body.getD i (.Pass ⟨0, 0, 0, 0⟩)
abbrev sSpanInit : Stmt := inClass (top 4) 0
abbrev sFacts : Stmt := inClass (top 4) 1
abbrev sTraceInit : Stmt := inClass (top 5) 0
abbrev sInOrder : Stmt := inClass (top 5) 1
abbrev sOutermost : Stmt := inClass (top 5) 2
abbrev sRightWithin : Stmt := inClass (top 5) 3
abbrev sAround : Stmt := inClass (top 5) 4
abbrev sHasFailure : Stmt := inClass (top 5) 5
abbrev sLength : Stmt := inClass (top 5) 6
/-! ## The heap -/
def wI : Option Nat → Int
  | none => 0
  | some i => (i : Int) + 1
def sF (x : Sq40.Span) : List (Str × V) := [("number", .int x.id), ("within", .int (wI x.up)), ("service", .int x.service), ("begins", .int x.from_), ("ends", .int x.to), ("failed", .bl x.failed)]
def SpanAt (C : Addr) (H : Hp) (p : Addr) (x : Sq40.Span) : Prop := ∃ dx, H p = some (.ins C dx (sF x))
theorem lk_here {k : Str} {v : V} {r : List (Str × V)} : List.lookup k ((k, v) :: r) = some v := by
  have e : (k == k) = true := beq_self_eq_true k
  simp only [List.lookup, e]
theorem lk_past {k g : Str} {v : V} {r : List (Str × V)} (h : (k == g) = false) : List.lookup k ((g, v) :: r) = List.lookup k r := by
  simp only [List.lookup, h]
theorem put_here {f : Str} {v x : V} {r : List (Str × V)} : putF f v ((f, x) :: r) = (f, v) :: r := if_pos rfl
theorem put_past {f g : Str} {v x : V} {r : List (Str × V)} (h : ¬ g = f) : putF f v ((g, x) :: r) = (g, x) :: putF f v r := if_neg h
theorem sF_number (x : Sq40.Span) : (sF x).lookup ("number" : Str) = some (.int x.id) := lk_here
theorem sF_within (x : Sq40.Span) : (sF x).lookup ("within" : Str) = some (.int (wI x.up)) := (lk_past (by decide +kernel)).trans lk_here
theorem sF_service (x : Sq40.Span) : (sF x).lookup ("service" : Str) = some (.int x.service) := (lk_past (by decide +kernel)).trans ((lk_past (by decide +kernel)).trans lk_here)
theorem sF_begins (x : Sq40.Span) : (sF x).lookup ("begins" : Str) = some (.int x.from_) := (lk_past (by decide +kernel)).trans ((lk_past (by decide +kernel)).trans ((lk_past (by decide +kernel)).trans lk_here))
theorem sF_ends (x : Sq40.Span) : (sF x).lookup ("ends" : Str) = some (.int x.to) := (lk_past (by decide +kernel)).trans ((lk_past (by decide +kernel)).trans ((lk_past (by decide +kernel)).trans ((lk_past (by decide +kernel)).trans lk_here)))
theorem sF_failed (x : Sq40.Span) : (sF x).lookup ("failed" : Str) = some (.bl x.failed) := (lk_past (by decide +kernel)).trans ((lk_past (by decide +kernel)).trans ((lk_past (by decide +kernel)).trans ((lk_past (by decide +kernel)).trans ((lk_past (by decide +kernel)).trans lk_here))))
theorem sF_facts (x : Sq40.Span) : (sF x).lookup ("facts" : Str) = none := (lk_past (by decide +kernel)).trans ((lk_past (by decide +kernel)).trans ((lk_past (by decide +kernel)).trans ((lk_past (by decide +kernel)).trans ((lk_past (by decide +kernel)).trans ((lk_past (by decide +kernel)).trans rfl)))))
theorem SpanAt.same {C : Addr} {H H' : Hp} {p : Addr} {x : Sq40.Span} (s : Same H H') (h : SpanAt C H p x) : SpanAt C H' p x := by
  obtain ⟨dx, e⟩ := h
  exact ⟨dx, s _ _ e⟩
/-- what the top has written of the classes and names -/
structure TxtS (K : PySem.W.Frag) (mg : Str → Option Value) (CS : Addr) : Prop where
  cl : Cls K CS
  nNumber : NoAttr K CS "number"
  nWithin : NoAttr K CS "within"
  nService : NoAttr K CS "service"
  nBegins : NoAttr K CS "begins"
  nEnds : NoAttr K CS "ends"
  nFailed : NoAttr K CS "failed"
section
variable {P : Program} {w : World} {K : PySem.W.Frag} {mg : Str → Option Value} {base : Heap} {CS CT : Addr}
/-- Span(number, within, service, begins, ends, failed) -/
def spSpanInit (C : Addr) : Sp := fun vs H Q _ => ∃ (p dx : Addr) (a b c d e : Int) (f : Bool), vs = [.ref p, .int a, .int b, .int c, .int d, .int e, .bl f] ∧ H p = some (.ins C dx []) ∧
  ∀ H' : Hp, H' p = some (.ins C dx [("number", .int a), ("within", .int b), ("service", .int c), ("begins", .int d), ("ends", .int e), ("failed", .bl f)]) → (∀ q o, H q = some o → q ≠ p → H' q = some o) → Q .non H'
theorem scSpanInit : FnScope ["self", "number", "within", "service", "begins", "ends", "failed"] ["self", "number", "within", "service", "begins", "ends", "failed"] (defScope sSpanInit) := ⟨rfl, rfl, rfl, by decide +kernel, rfl, by decide +kernel, by decide +kernel⟩
theorem ok_spanInit {f : Addr} {fd : FuncData} (F : Fun K "__init__" "Span.__init__" sSpanInit f fd) (T : TxtS K mg CS) :
    FnOk P w K mg base CX0 1 f fd ["self", "number", "within", "service", "begins", "ends", "failed"] (spSpanInit CS) := by
  refine F.ok scSpanInit (fun vs H Q E h => ?_) (fun cdv A outer s H vs Q E hr h => ?_)
  · obtain ⟨p, dx, a, b, c, d, e, f, rfl, _⟩ := h
    rfl
  · refine ⟨_, pss_cons (ps_fld (pv 0) (pv 1) rfl) (pss_cons (ps_fld (pv 0) (pv 2) rfl) (pss_cons (ps_fld (pv 0) (pv 3) rfl) (pss_cons (ps_fld (pv 0) (pv 4) rfl) (pss_cons (ps_fld (pv 0) (pv 5) rfl) (pss_one (ps_fld (pv 0) (pv 6) rfl)))))), ?_⟩
    obtain ⟨p, dx, a, b, c, d, e, f, rfl, hp, k⟩ := h
    refine ⟨_, rfl, _, rfl, p, CS, dx, [], rfl, hp, T.cl, T.nNumber, (by show 0 < 1000; decide), ?_⟩
    refine ⟨_, rfl, _, rfl, p, CS, dx, _, rfl, upd_same, T.cl, T.nWithin, (by show 1 < 1000; decide), ?_⟩
    refine ⟨_, rfl, _, rfl, p, CS, dx, _, rfl, upd_same, T.cl, T.nService, (by show 2 < 1000; decide), ?_⟩
    refine ⟨_, rfl, _, rfl, p, CS, dx, _, rfl, upd_same, T.cl, T.nBegins, (by show 3 < 1000; decide), ?_⟩
    refine ⟨_, rfl, _, rfl, p, CS, dx, _, rfl, upd_same, T.cl, T.nEnds, (by show 4 < 1000; decide), ?_⟩
    refine ⟨_, rfl, _, rfl, p, CS, dx, _, rfl, upd_same, T.cl, T.nFailed, (by show 5 < 1000; decide), ?_⟩
    refine k _ (Eq.trans upd_same (congrArg (fun q => some (HO.ins CS dx q)) (by kernel_rfl))) fun q o hq hn => ?_
    rw [upd_ne hn, upd_ne hn, upd_ne hn, upd_ne hn, upd_ne hn, upd_ne hn]
    exact hq
end
end Tr
namespace Tr
open PySem PySem.Spec PyProof.Rows L2
def tF (r : TR) : List (Str × V) := [("number", .int r.n), ("spans", .ref r.ds), ("heard", .int r.heard), ("verdict", .int r.verdict)]
def kvS (es : List (Sq40.Span × Addr)) : List (Key × V) := es.map fun e => (Sum.inl (e.1.id : Int), V.ref e.2)
def rfs (es : List (Sq40.Span × Addr)) : List V := es.map fun e => V.ref e.2
structure TRok (CS CT : Addr) (H : Hp) (r : TR) : Prop where
  ins : H r.a = some (.ins CT r.dx (tF r))
  dict : H r.ds = some (.dK (kvS r.es))
  spans : ∀ e ∈ r.es, SpanAt CS H e.2 e.1
theorem TRok.same {CS CT : Addr} {H H' : Hp} {r : TR} (s : Same H H') (h : TRok CS CT H r) : TRok CS CT H' r := ⟨s _ _ h.ins, s _ _ h.dict, fun e he => (h.spans e he).same s⟩
theorem tF_number (r : TR) : (tF r).lookup ("number" : Str) = some (.int r.n) := lk_here
theorem tF_spans (r : TR) : (tF r).lookup ("spans" : Str) = some (.ref r.ds) := (lk_past (by decide +kernel)).trans lk_here
theorem tF_heard (r : TR) : (tF r).lookup ("heard" : Str) = some (.int r.heard) := (lk_past (by decide +kernel)).trans ((lk_past (by decide +kernel)).trans lk_here)
theorem tF_verdict (r : TR) : (tF r).lookup ("verdict" : Str) = some (.int r.verdict) := (lk_past (by decide +kernel)).trans ((lk_past (by decide +kernel)).trans ((lk_past (by decide +kernel)).trans lk_here))
theorem tF_none (r : TR) {m : Str} (h : [("number" : Str), "spans", "heard", "verdict"].contains m = false) : (tF r).lookup m = none := by
  simp only [List.contains_cons, List.contains_nil, Bool.or_eq_false_iff, Bool.or_false] at h
  obtain ⟨h1, h2, h3, h4⟩ := h
  exact (lk_past h1).trans ((lk_past h2).trans ((lk_past h3).trans ((lk_past h4).trans rfl)))
theorem sameUpd {H : Hp} {p : Addr} {o : HO} (h : H p = none) : Same H (upd H p o) := fun b u e => by
  rw [upd_ne (ne_of_none e h)]
  exact e
theorem samePut {H H1 : Hp} {p : Addr} {o : HO} (s : Same H H1) (h : H p = none) : Same H (upd H1 p o) := fun b u e => by
  rw [upd_ne (ne_of_none e h)]
  exact s _ _ e
theorem Pure.valV {es : List (Sq40.Span × Addr)} {l : List Sq40.Span} (pu : Pure es l) {e : Sq40.Span × Addr} (h : e ∈ es) : L2.valV (kvS es) (Sum.inl (e.1.id : Int)) = some (.ref e.2) := by
  have nd : ((kvS es).map (·.1)).Nodup := by
    have q : (kvS es).map (·.1) = (es.map fun e => (e.1.id : Int)).map Sum.inl := by
      unfold kvS
      rw [List.map_map, List.map_map]
      rfl
    rw [q]
    have := pu.nd
    unfold List.Nodup at this ⊢
    rw [List.pairwise_map]
    exact this.imp fun h z => h (Sum.inl.inj z)
  exact val_nodup nd (Sum.inl (e.1.id : Int), .ref e.2) (List.mem_map.mpr ⟨e, h, rfl⟩)
theorem yes_if {σ : L2.St} {H : Hp} {A B : Hp → Prop} (h : A H) : tYes σ H (fun b H3 => if b = true then A H3 else B H3) := by
  show (if true = true then A H else B H)
  exact iteT h
theorem take_more {α : Type} {l : List α} {i : Nat} {x : α} (h : l[i]? = some x) : l.take (i + 1) = l.take i ++ [x] := by
  rw [List.take_add_one, h]
  rfl
structure TxtT (K : PySem.W.Frag) (mg : Str → Option Value) (CT : Addr) : Prop where
  cl : Cls K CT
  nNumber : NoAttr K CT "number"
  nSpans : NoAttr K CT "spans"
  nHeard : NoAttr K CT "heard"
  nVerdict : NoAttr K CT "verdict"
  undec : ∃ t, mg "UNDECIDED" = some (.int 0 t)
  sorted : mg "sorted" = none
  any : mg "any" = none
  min : mg "min" = none
  max : mg "max" = none
section
variable {P : Program} {w : World} {K : PySem.W.Frag} {mg : Str → Option Value} {base : Heap} {CS CT : Addr}
def spInOrder (CS CT : Addr) : Sp := fun vs H Q _ => ∃ (r : TR) (l : List Sq40.Span), vs = [.ref r.a] ∧ TRok CS CT H r ∧ Pure r.es l ∧
  ∀ (H' : Hp) (p : Addr) (es : List (Sq40.Span × Addr)), Same H H' → es.map (·.1) = l → (∀ e ∈ es, e ∈ r.es) → H p = none → H' p = some (.lst (rfs es)) → Q (.ref p) H'
theorem scInOrder : FnScope ["self", "number"] ["self"] (defScope sInOrder) := ⟨rfl, rfl, rfl, by decide +kernel, rfl, by decide +kernel, by decide +kernel⟩
theorem ok_inOrder {f : Addr} {fd : FuncData} (F : Fun K "in_order" "Trace.in_order" sInOrder f fd) (T : TxtT K mg CT) :
    FnOk P w K mg base CX0 1 f fd ["self"] (spInOrder CS CT) := by
  refine F.ok scInOrder (fun vs H Q E h => ?_) (fun cdv A outer s H vs Q E hr h => ?_)
  · obtain ⟨r, l, rfl, _⟩ := h
    rfl
  · have hu := hu_of hr
    refine ⟨_, pss_one (ps_ret (pe_lc (own := [("number", 1)]) (g := gName 1) (tt := tYes) (te := tDGet (tFld K (tVar 0) "spans") (tVar 1)) rfl scInOrder.nd (pi_list (pe_callB (call_sortedDI rfl) (by rfl) T.sorted (by decide +kernel) (pa_cons (pe_fld (pv 0) rfl) pa_nil)))
      (blkOk_by (N := ["self", "number"]) (sc := defScope sInOrder) (by decide +kernel)) (fun _ _ _ _ _ => pg_name (i := 1) scInOrder.nd rfl (Or.inl rfl)) (fun _ _ _ _ _ => pts_nil)
      (fun _ _ _ _ _ => pe_dget (by exact hu) (pe_fld (pv 0) rfl) (pv 1) (fun _ _ => rfl)))), ?_⟩
    obtain ⟨r, l, rfl, ok, pu, k⟩ := h
    obtain ⟨es, hpe, hme⟩ := perm_lift (fun e : Sq40.Span × Addr => e.1) pu.perm
    have hks : (kvS r.es).map (·.1) = (r.es.map fun e => (e.1.id : Int)).map Sum.inl := by
      unfold kvS
      rw [List.map_map, List.map_map]
      rfl
    refine ⟨_, rfl, r.a, CT, r.dx, _, _, rfl, ok.ins, T.cl, T.nSpans, tF_spans r, r.ds, kvS r.es, r.es.map fun e => (e.1.id : Int), rfl, .inl ok.dict, hks, ?_, fun ys p hp hs hn => ?_⟩
    · rw [List.length_map, pu.len]
      exact Nat.lt_of_le_of_lt pu.few (by decide)
    have hys := pu.sorted hp hs
    subst hys
    refine ⟨p, rfl, ⟨_, SqL.of upd_same⟩, fun D hD => ?_⟩
    have hDn : H D = none := (sameUpd hn).free hD
    refine lc_list (xs := (l.map fun x => (x.id : Int)).map V.int) (fun i H' => Same (upd H p (.lst ((l.map fun x => (x.id : Int)).map V.int))) H' ∧ H' D = some (.lst (rfs (es.take i)))) ⟨sameUpd hD, upd_same⟩ (fun i H' _ q => SqL.of (q.1 _ _ upd_same)) ?_ ?_
    · rintro i x H' hi ⟨s1, hd⟩
      have ok' := (ok.same (sameUpd hn)).same s1
      obtain ⟨e, he, rfl⟩ : ∃ e, es[i]? = some e ∧ x = .int e.1.id := by
        rw [← hme, List.map_map, List.map_map, List.getElem?_map] at hi
        cases q : es[i]? with
        | none =>
          rw [q] at hi
          cases hi
        | some e =>
          rw [q] at hi
          exact ⟨e, rfl, (Option.some.inj hi).symm⟩
      have hm : e ∈ r.es := hpe.mem_iff.mp (List.mem_of_getElem? he)
      have hg : DGet H' r.ds (.int e.1.id) (some (.ref e.2)) := by
        have g := DGet.k (k := Sum.inl (e.1.id : Int)) ok'.dict
        rw [pu.valV hm] at g
        exact g
      refine ⟨rfl, ?_⟩
      refine yes_if ?_
      refine ⟨_, rfl, r.a, CT, r.dx, _, _, rfl, ok'.ins, T.cl, T.nSpans, tF_spans r, _, rfl, r.ds, _, rfl, hg, _, hd, ?_, ?_, ?_⟩
      · have := pu.few
        have h2 : (rfs (es.take i)).length ≤ l.length := by
          unfold rfs
          rw [← hme, List.length_map, List.length_map, List.length_take]
          omega
        exact Nat.lt_of_le_of_lt (Nat.le_trans h2 this) (by decide)
      · exact samePut s1 hD
      · rw [upd_same]
        unfold rfs
        rw [take_more he, List.map_append]
        rfl
    · rintro H' ⟨s1, hd⟩
      refine k H' D es ((sameUpd hn).trans s1) hme (fun e he => hpe.mem_iff.mp he) hDn ?_
      rw [hd, List.take_of_length_le]
      rw [List.length_map, List.length_map, ← hme, List.length_map]
      exact Nat.le_refl _
end
end Tr
namespace Tr
open PySem PySem.Spec PyProof.Rows L2
/-! ## Comprehensions that make nothing new but their list -/
theorem filter_take {α : Type} {l : List α} {p : α → Bool} {i : Nat} {x : α} (h : l[i]? = some x) : (l.take (i + 1)).filter p = if p x = true then (l.take i).filter p ++ [x] else (l.take i).filter p := by
  rw [take_more h, List.filter_append]
  by_cases c : p x = true
  · rw [if_pos c, List.filter_cons, if_pos c]
    rfl
  · rw [if_neg c, List.filter_cons, if_neg c]
    simp
/-- what a comprehension asks of its turns -/
def LcW (J : It) (g : TG) (tt : TT) (te : TE) (vs : List Nat) (σ : L2.St) (H1 : Hp) (D : Addr) (Qd : Hp → Prop) : Prop := ∃ W : Nat → Nat → Hp → Prop, (∃ m, W 0 m (upd H1 D (.lst []))) ∧ ∀ i m H, W i m H → (J.stop i H ∧ Qd H) ∨ (J.go i H ∧ ∃ Nx : Hp → Prop, (∀ H', Nx H' → ∃ m', m' < m ∧ W (i + 1) m' H') ∧ ∀ x H', J.yld i H x H' → g x (wipe σ vs) H' fun σ2 H2 => wipe σ2 vs = wipe σ vs ∧ tt σ2 H2 fun b H3 => if b = true then te σ2 H3 fun y H4 => ∃ acc, H4 D = some (.lst acc) ∧ acc.length < sizeLine ∧ Nx (upd H4 D (.lst (acc ++ [y]))) else Nx H3)
theorem lc_pick {ι : Type} {J : It} {G : Hp → Prop} {Y : Nat → Hp → V → Hp → Prop} {es : List ι} (v f : ι → V) (p : ι → Bool) {g : TG} {tt : TT} {te : TE} {vs : List Nat} {σ : L2.St} {H1 : Hp} {D : Addr} {Qd : Hp → Prop}
    (w : Walk J es.length G Y) (hY : ∀ i H x H', i < es.length → Y i H x H' → H' = H ∧ ∃ e, es[i]? = some e ∧ x = v e) (hG : ∀ H', Same H1 H' → G H') (hD : H1 D = none) (hn : es.length < sizeLine)
    (turn : ∀ e ∈ es, ∀ H', Same H1 H' → ∀ (A : V → Hp → Prop) (B : Hp → Prop), (p e = true → A (f e) H') → (p e = false → B H') →
      g (v e) (wipe σ vs) H' fun σ2 H2 => wipe σ2 vs = wipe σ vs ∧ tt σ2 H2 fun b H3 => if b = true then te σ2 H3 A else B H3)
    (hd : ∀ H', Same H1 H' → H' D = some (.lst ((es.filter p).map f)) → Qd H') :
    LcW J g tt te vs σ H1 D Qd := by
  refine lc_it w (fun i H' => Same H1 H' ∧ H' D = some (.lst (((es.take i).filter p).map f))) ⟨sameUpd hD, upd_same⟩ (fun i H' _ q => hG H' q.1) ?_ ?_
  · rintro i x H H' hi ⟨s1, hd⟩ y
    obtain ⟨rfl, e, he, rfl⟩ := hY i H x H' hi y
    have ft := filter_take (p := p) he
    refine turn e (List.mem_of_getElem? he) H' s1 _ _ (fun hp => ⟨_, hd, ?_, samePut s1 hD, ?_⟩) (fun hp => ⟨s1, ?_⟩)
    · rw [List.length_map]
      refine Nat.lt_of_le_of_lt (List.length_filter_le _ _) (Nat.lt_of_le_of_lt ?_ hn)
      rw [List.length_take]
      omega
    · rw [upd_same, ft, if_pos hp, List.map_append]
      rfl
    · rw [ft, if_neg (by rw [hp]; decide)]
      exact hd
  · rintro H' ⟨s1, hd'⟩
    refine hd H' s1 ?_
    rw [List.take_length] at hd'
    exact hd'
theorem walk_items_of {ι : Type} {K : PySem.W.Frag} {a : Addr} (es : List ι) (v : ι → V) : Walk (Itl K a) es.length (fun H => SqL K H a (es.map v)) (YAt (es.map v)) := by
  have := walk_list (K := K) (a := a) (xs := es.map v)
  rw [List.length_map] at this
  exact this
theorem yat_of {ι : Type} {es : List ι} {v : ι → V} {i : Nat} {H : Hp} {x : V} {H' : Hp} (y : YAt (es.map v) i H x H') : H' = H ∧ ∃ e, es[i]? = some e ∧ x = v e := by
  obtain ⟨h1, h2⟩ := y
  rw [List.getElem?_map] at h2
  cases q : es[i]? with
  | none =>
    rw [q] at h2
    cases h2
  | some e =>
    rw [q] at h2
    exact ⟨h1, e, rfl, (Option.some.inj h2).symm⟩
/-- over a list -/
theorem lc_listPick {ι : Type} {K : PySem.W.Frag} {a : Addr} {es : List ι} (v f : ι → V) (p : ι → Bool) {g : TG} {tt : TT} {te : TE} {vs : List Nat} {σ : L2.St} {H1 : Hp} {D : Addr} {Qd : Hp → Prop}
    (ha : SqL K H1 a (es.map v)) (hD : H1 D = none) (hn : es.length < sizeLine)
    (turn : ∀ e ∈ es, ∀ H', Same H1 H' → ∀ (A : V → Hp → Prop) (B : Hp → Prop), (p e = true → A (f e) H') → (p e = false → B H') →
      g (v e) (wipe σ vs) H' fun σ2 H2 => wipe σ2 vs = wipe σ vs ∧ tt σ2 H2 fun b H3 => if b = true then te σ2 H3 A else B H3)
    (hd : ∀ H', Same H1 H' → H' D = some (.lst ((es.filter p).map f)) → Qd H') :
    LcW (Itl K a) g tt te vs σ H1 D Qd :=
  lc_pick v f p (walk_items_of (K := K) (a := a) es v) (fun i H x H' _ y => yat_of y) (fun H' s => s.seq ha) hD hn turn hd
section
variable {P : Program} {w : World} {K : PySem.W.Frag} {mg : Str → Option Value} {base : Heap} {CS CT : Addr}
/-- a promise: some of the spans of a trace, in order -/
def spPick (CS CT : Addr) (vs0 : TR → List V) (sel : List Sq40.Span → List Sq40.Span) : Sp := fun vs H Q _ => ∃ (r : TR) (l : List Sq40.Span), vs = vs0 r ∧ TRok CS CT H r ∧ Pure r.es l ∧
  ∀ (H' : Hp) (p : Addr) (es : List (Sq40.Span × Addr)), Same H H' → es.map (·.1) = sel l → (∀ e ∈ es, e ∈ r.es) → H p = none → H' p = some (.lst (rfs es)) → Q (.ref p) H'
abbrev spOutermost (CS CT : Addr) : Sp := spPick CS CT (fun r => [.ref r.a]) Sq40.roots
def spRightWithin (CS CT : Addr) : Sp := fun vs H Q E => ∃ i : Nat, spPick CS CT (fun r => [.ref r.a, .int i]) (fun l => Sq40.kids l i) vs H Q E
theorem wI_zero (u : Option Nat) : decide (V.int (wI u) = V.int 0) = u.isNone := by
  cases u with
  | none => rfl
  | some i =>
    have h : ¬ V.int (wI (some i)) = V.int 0 := fun z => by
      have := V.int.inj z
      simp only [wI] at this
      omega
    rw [decide_eq_false h]
    rfl
theorem wI_kid (u : Option Nat) (i : Nat) : decide (V.int (wI u) = V.int ((i : Int) + 1)) = (u == some i) := by
  cases u with
  | none =>
    have h : ¬ V.int (wI none) = V.int ((i : Int) + 1) := fun z => by
      have := V.int.inj z
      simp only [wI] at this
      omega
    rw [decide_eq_false h]
    rfl
  | some j =>
    by_cases c : j = i
    · subst c
      rw [decide_eq_true (show V.int (wI (some j)) = V.int ((j : Int) + 1) from rfl), beq_self_eq_true]
    · have h : ¬ V.int (wI (some j)) = V.int ((i : Int) + 1) := fun z => by
        have := V.int.inj z
        simp only [wI] at this
        omega
      rw [decide_eq_false h]
      symm
      rw [beq_eq_false_iff_ne]
      exact fun z => c (Option.some.inj z)
theorem filter_fst {es : List (Sq40.Span × Addr)} {l : List Sq40.Span} {p : Sq40.Span → Bool} (h : es.map (·.1) = l) : (es.filter fun e => p e.1).map (·.1) = l.filter p := by
  subst h
  rw [List.filter_map]
  rfl
theorem few_lt {es : List (Sq40.Span × Addr)} {l : List Sq40.Span} (h : es.map (·.1) = l) (q : l.length ≤ 60) : es.length < sizeLine := by
  have := congrArg List.length h
  rw [List.length_map] at this
  rw [this]
  exact Nat.lt_of_le_of_lt q (by decide)
theorem scOutermost : FnScope ["self", "span"] ["self"] (defScope sOutermost) := ⟨rfl, rfl, rfl, by decide +kernel, rfl, by decide +kernel, by decide +kernel⟩
theorem ok_outermost {f f1 : Addr} {fd fd1 : FuncData} (F : Fun K "outermost" "Trace.outermost" sOutermost f fd) (TS : TxtS K mg CS) (T : TxtT K mg CT)
    (G : FnOk P w K mg base CX0 1 f1 fd1 ["self"] (spInOrder CS CT)) (m1 : Meth K CT "in_order" f1) (b1 : Binds K fd1 ["self"] []) :
    FnOk P w K mg base CX0 2 f fd ["self"] (spOutermost CS CT) := by
  refine F.ok scOutermost (fun vs H Q E h => ?_) (fun cdv A outer s H vs Q E hr h => ?_)
  · obtain ⟨r, l, rfl, _⟩ := h
    rfl
  · have hu := hu_of hr
    refine ⟨_, pss_one (ps_ret (pe_lc (own := [("span", 1)]) (g := gName 1) (tt := tTest (tOp rEq (tFld K (tVar 1) "within") (tC (.int 0)))) (te := tVar 1) rfl scOutermost.nd (pi_list (pe_meth0 (pv 0) T.cl m1 G hr b1 .nil pass0))
      (blkOk_by (N := ["self", "span"]) (sc := defScope sOutermost) (by decide +kernel)) (fun _ _ _ _ _ => pg_name (i := 1) scOutermost.nd rfl (Or.inl rfl))
      (fun _ _ _ _ _ => pts_one (pt_cmpR op_eq (pe_fld (pv 1) rfl) pe_int (nomark _)))
      (fun _ _ _ _ _ => pv 1))), ?_⟩
    obtain ⟨r, l, rfl, ok, pu, k⟩ := h
    refine ⟨_, rfl, r.a, r.dx, _, rfl, ok.ins, tF_none r (by decide +kernel), r, l, rfl, ok, pu, fun H1 p es s1 hm hin hn hp => ?_⟩
    refine ⟨p, rfl, ⟨_, SqL.of hp⟩, fun D hD => ?_⟩
    refine lc_listPick (K := K) (es := es) (fun e => V.ref e.2) (fun e => V.ref e.2) (fun e => e.1.up.isNone) (SqL.of hp) hD (few_lt hm pu.few) ?_ ?_
    · intro e he H' s2 A B ha hb
      obtain ⟨dx, hsp⟩ := ((ok.same s1).same s2).spans e (hin e he)
      refine ⟨rfl, ⟨_, rfl, e.2, CS, dx, _, _, rfl, hsp, TS.cl, TS.nWithin, sF_within _, rfl, _, rfl, ?_⟩⟩
      rw [wI_zero]
      cases c : e.1.up.isNone with
      | true => exact iteT ⟨_, rfl, ha c⟩
      | false => exact iteF (hb c)
    · intro H' s2 hd
      refine k H' D (es.filter fun e => e.1.up.isNone) (s1.trans s2) (filter_fst (p := fun x => x.up.isNone) hm) (fun e he => hin e (List.mem_filter.mp he).1) (s1.free hD) hd
theorem scRightWithin : FnScope ["self", "number", "span"] ["self", "number"] (defScope sRightWithin) := ⟨rfl, rfl, rfl, by decide +kernel, rfl, by decide +kernel, by decide +kernel⟩
theorem ok_rightWithin {f f1 : Addr} {fd fd1 : FuncData} (F : Fun K "right_within" "Trace.right_within" sRightWithin f fd) (TS : TxtS K mg CS) (T : TxtT K mg CT)
    (G : FnOk P w K mg base CX0 1 f1 fd1 ["self"] (spInOrder CS CT)) (m1 : Meth K CT "in_order" f1) (b1 : Binds K fd1 ["self"] []) :
    FnOk P w K mg base CX0 2 f fd ["self", "number"] (spRightWithin CS CT) := by
  refine F.ok scRightWithin (fun vs H Q E h => ?_) (fun cdv A outer s H vs Q E hr h => ?_)
  · obtain ⟨i, r, l, rfl, _⟩ := h
    rfl
  · have hu := hu_of hr
    refine ⟨_, pss_one (ps_ret (pe_lc (own := [("span", 2)]) (g := gName 2) (tt := tTest (tOp rEq (tFld K (tVar 2) "within") (tOp (rI0 fun i j => .int (i + j)) (tVar 1) (tC (.int 1))))) (te := tVar 2) rfl scRightWithin.nd (pi_list (pe_meth0 (pv 0) T.cl m1 G hr b1 .nil pass0))
      (blkOk_by (N := ["self", "number", "span"]) (sc := defScope sRightWithin) (by decide +kernel)) (fun _ _ _ _ _ => pg_name (i := 2) scRightWithin.nd rfl (Or.inl rfl))
      (fun _ _ _ _ _ => pts_one (pt_cmpR op_eq (pe_fld (pv 2) rfl) (pe_op op_add (pv 1) pe_int) (nomark _)))
      (fun _ _ _ _ _ => pv 2))), ?_⟩
    obtain ⟨i, r, l, rfl, ok, pu, k⟩ := h
    refine ⟨_, rfl, r.a, r.dx, _, rfl, ok.ins, tF_none r (by decide +kernel), r, l, rfl, ok, pu, fun H1 p es s1 hm hin hn hp => ?_⟩
    refine ⟨p, rfl, ⟨_, SqL.of hp⟩, fun D hD => ?_⟩
    refine lc_listPick (K := K) (es := es) (fun e => V.ref e.2) (fun e => V.ref e.2) (fun e => e.1.up == some i) (SqL.of hp) hD (few_lt hm pu.few) ?_ ?_
    · intro e he H' s2 A B ha hb
      obtain ⟨dx, hsp⟩ := ((ok.same s1).same s2).spans e (hin e he)
      refine ⟨rfl, ⟨_, rfl, e.2, CS, dx, _, _, rfl, hsp, TS.cl, TS.nWithin, sF_within _, _, rfl, _, _, rfl, rfl, rfl, _, rfl, ?_⟩⟩
      rw [wI_kid]
      cases c : e.1.up == some i with
      | true => exact iteT ⟨_, rfl, ha c⟩
      | false => exact iteF (hb c)
    · intro H' s2 hd
      refine k H' D (es.filter fun e => e.1.up == some i) (s1.trans s2) (filter_fst (p := fun x => x.up == some i) hm) (fun e he => hin e (List.mem_filter.mp he).1) (s1.free hD) hd
end
end Tr
namespace Tr
open PySem PySem.Spec PyProof.Rows L2
theorem lock_same {H H' : Hp} {d : Addr} {u o : HO} (h : H d = some u) (s : Same (upd H d o) H') : Same H (upd H' d u) := fun b v e => by
  by_cases c : b = d
  · subst c
    rw [upd_same, ← h]
    exact e
  · rw [upd_ne c]
    exact s b v (by rw [upd_ne c]; exact e)
theorem Same.lk {H : Hp} {d b : Addr} {o u : HO} (h : H b = some u) (c : b ≠ d) : upd H d o b = some u := by
  rw [upd_ne c]
  exact h
theorem walk_vals_of {ι : Type} {d : Addr} {o : Obj} (es : List ι) (kv : ι → Key × V) : Walk (Itd d o (es.map kv)) es.length (fun H => H d = some (.frz o (.dK (es.map kv)))) (fun i H x H' => H' = H ∧ ∃ k, (es.map kv)[i]? = some (k, x)) := by
  have := walk_values (d := d) (o := o) (kvs := es.map kv)
  rw [List.length_map] at this
  exact this
/-- over a dict's values -/
theorem lc_valsPick {ι : Type} {d : Addr} {o : Obj} {es : List ι} (kv : ι → Key × V) (f : ι → V) (p : ι → Bool) {g : TG} {tt : TT} {te : TE} {vs : List Nat} {σ : L2.St} {H1 : Hp} {D : Addr} {Qd : Hp → Prop}
    (ha : H1 d = some (.frz o (.dK (es.map kv)))) (hD : H1 D = none) (hn : es.length < sizeLine)
    (turn : ∀ e ∈ es, ∀ H', Same H1 H' → ∀ (A : V → Hp → Prop) (B : Hp → Prop), (p e = true → A (f e) H') → (p e = false → B H') →
      g (kv e).2 (wipe σ vs) H' fun σ2 H2 => wipe σ2 vs = wipe σ vs ∧ tt σ2 H2 fun b H3 => if b = true then te σ2 H3 A else B H3)
    (hd : ∀ H', Same H1 H' → H' D = some (.lst ((es.filter p).map f)) → Qd H') : LcW (Itd d o (es.map kv)) g tt te vs σ H1 D Qd :=
  lc_pick (fun e => (kv e).2) f p (walk_vals_of es kv) (fun i H x H' _ y => by
    obtain ⟨h1, k, h2⟩ := y
    rw [List.getElem?_map] at h2
    cases q : es[i]? with
    | none =>
      rw [q] at h2
      cases h2
    | some e =>
      rw [q] at h2
      have := Option.some.inj h2
      exact ⟨h1, e, rfl, by show x = (kv e).2; rw [this]⟩) (fun H' s => s _ _ ha) hD hn turn hd
theorem filter_all {α : Type} (l : List α) : l.filter (fun _ => true) = l := by simp
section
variable {P : Program} {w : World} {K : PySem.W.Frag} {mg : Str → Option Value} {base : Heap} {CS CT : Addr}
theorem TRok.sp_ne {H : Hp} {r : TR} (ok : TRok CS CT H r) {e : Sq40.Span × Addr} (he : e ∈ r.es) : e.2 ≠ r.ds := by
  obtain ⟨dx, h⟩ := ok.spans e he
  exact ne_of h ok.dict (by intro z; cases z)
theorem TRok.a_ne {H : Hp} {r : TR} (ok : TRok CS CT H r) : r.a ≠ r.ds := ne_of ok.ins ok.dict (by intro z; cases z)
def spHasFailure (CS CT : Addr) : Sp := fun vs H Q _ => ∃ (r : TR) (l : List Sq40.Span), vs = [.ref r.a] ∧ TRok CS CT H r ∧ Pure r.es l ∧
  ∀ (H' : Hp), Same H H' → Q (.bl (l.any fun x => x.failed)) H'
theorem scHasFailure : FnScope ["self", "span"] ["self"] (defScope sHasFailure) := ⟨rfl, rfl, rfl, by decide +kernel, rfl, by decide +kernel, by decide +kernel⟩
theorem ok_hasFailure {f : Addr} {fd : FuncData} (F : Fun K "has_failure" "Trace.has_failure" sHasFailure f fd) (TS : TxtS K mg CS) (T : TxtT K mg CT) :
    FnOk P w K mg base CX0 1 f fd ["self"] (spHasFailure CS CT) := by
  refine F.ok scHasFailure (fun vs H Q E h => ?_) (fun cdv A outer s H vs Q E hr h => ?_)
  · obtain ⟨r, l, rfl, _⟩ := h
    rfl
  · refine ⟨_, pss_one (ps_ret (pe_callB (cr_any rfl) (by rfl) T.any (by decide +kernel) (pa_cons (pe_lock (pe_lc (own := [("span", 1)]) (g := gName 1) (tt := tYes) (te := tFld K (tVar 1) "failed") rfl scHasFailure.nd (pi_values (pe_fld (pv 0) rfl))
      (blkOk_by (N := ["self", "span"]) (sc := defScope sHasFailure) (by decide +kernel)) (fun _ _ _ _ _ => pg_name (i := 1) scHasFailure.nd rfl (Or.inl rfl))
      (fun _ _ _ _ _ => pts_nil) (fun _ _ _ _ _ => pe_fld (pv 1) rfl))) pa_nil))), ?_⟩
    obtain ⟨r, l, rfl, ok, pu, k⟩ := h
    refine ⟨r.ds, .dK (kvS r.es), ok.dict, trivial, fun od => ?_⟩
    refine ⟨_, rfl, r.a, CT, r.dx, _, _, rfl, Same.lk ok.ins ok.a_ne, T.cl, T.nSpans, tF_spans r, r.ds, od, kvS r.es, rfl, upd_same, fun D hD => ?_⟩
    refine lc_valsPick (es := r.es) (fun e => (Sum.inl (e.1.id : Int), V.ref e.2)) (fun e => V.bl e.1.failed) (fun _ => true) upd_same hD ?_ ?_ ?_
    · rw [pu.len]
      exact Nat.lt_of_le_of_lt pu.few (by decide)
    · intro e he H' s2 A B ha hb
      obtain ⟨dx, hsp⟩ := ok.spans e he
      have hsp' := s2 _ _ (Same.lk hsp (ok.sp_ne he))
      refine ⟨rfl, yes_if ?_⟩
      exact ⟨_, rfl, e.2, CS, dx, _, _, rfl, hsp', TS.cl, TS.nFailed, sF_failed _, ha rfl⟩
    · intro H' s2 hd
      refine ⟨s2 _ _ upd_same, ?_⟩
      have hDn : D ≠ r.ds := fun z => by
        rw [z, upd_same] at hD
        cases hD
      refine ⟨D, r.es.map fun e => e.1.failed, rfl, SqL.of ?_, ?_⟩
      · rw [upd_ne hDn, hd, filter_all, List.map_map]
        rfl
      · have e : (r.es.map fun e => e.1.failed).any id = l.any fun x => x.failed := by
          rw [← pu.perm.any_eq, List.any_map, List.any_map]
          rfl
        rw [e]
        exact k _ (lock_same ok.dict s2)
/-! ### length -/
def spLength (CS CT : Addr) : Sp := fun vs H Q _ => ∃ (r : TR) (l : List Sq40.Span), vs = [.ref r.a] ∧ TRok CS CT H r ∧ Pure r.es l ∧ l ≠ [] ∧
  ∀ (H' : Hp), Same H H' → Q (.int (Sq40.long l)) H'
theorem long_is {l : List Sq40.Span} {a b : Int} (hv : ∀ y ∈ l, y.from_ < y.to) (h1 : a ∈ l.map fun x => (x.from_ : Int)) (h2 : ∀ y ∈ l.map (fun x => (x.from_ : Int)), a ≤ y) (h3 : b ∈ l.map fun x => (x.to : Int)) (h4 : ∀ y ∈ l.map (fun x => (x.to : Int)), y ≤ b) : b - a = (Sq40.long l : Int) := by
  obtain ⟨x, hx, rfl⟩ := List.mem_map.mp h1
  obtain ⟨y, hy, rfl⟩ := List.mem_map.mp h3
  have e1 : (l.map fun x => x.from_).min? = some x.from_ := by
    rw [List.min?_eq_some_iff]
    refine ⟨List.mem_map.mpr ⟨x, hx, rfl⟩, fun k hk => ?_⟩
    obtain ⟨z, hz, rfl⟩ := List.mem_map.mp hk
    have := h2 _ (List.mem_map.mpr ⟨z, hz, rfl⟩)
    omega
  have e2 : (l.map fun x => x.to).max? = some y.to := by
    rw [List.max?_eq_some_iff]
    refine ⟨List.mem_map.mpr ⟨y, hy, rfl⟩, fun k hk => ?_⟩
    obtain ⟨z, hz, rfl⟩ := List.mem_map.mp hk
    have := h4 _ (List.mem_map.mpr ⟨z, hz, rfl⟩)
    omega
  unfold Sq40.long
  rw [e1, e2]
  have := h4 _ (List.mem_map.mpr ⟨x, hx, rfl⟩)
  have := hv x hx
  show (y.to : Int) - x.from_ = ((y.to - x.from_ : Nat) : Int)
  omega
theorem perm_ints {es : List (Sq40.Span × Addr)} {l : List Sq40.Span} (pu : Pure es l) (f : Sq40.Span → Nat) : (es.map fun e => (f e.1 : Int)).Perm (l.map fun x => (f x : Int)) := by
  have e : (es.map fun e => (f e.1 : Int)) = (es.map (·.1)).map fun x => (f x : Int) := by
    rw [List.map_map]
    rfl
  rw [e]
  exact pu.perm.map _
theorem scLength : FnScope ["self", "first", "last", "span"] ["self"] (defScope sLength) := ⟨rfl, rfl, rfl, by decide +kernel, rfl, by decide +kernel, by decide +kernel⟩
theorem ok_length {f : Addr} {fd : FuncData} (F : Fun K "length" "Trace.length" sLength f fd) (TS : TxtS K mg CS) (T : TxtT K mg CT) :
    FnOk P w K mg base CX0 1 f fd ["self"] (spLength CS CT) := by
  refine F.ok scLength (fun vs H Q E h => ?_) (fun cdv A outer s H vs Q E hr h => ?_)
  · obtain ⟨r, l, rfl, _⟩ := h
    rfl
  · refine ⟨_, pss_cons (ps_set (i := 1) scLength.nd rfl (Or.inl rfl) (pe_callB (cr_min rfl) (by rfl) T.min (by decide +kernel) (pa_cons (pe_lock (pe_lc (own := [("span", 3)]) (g := gName 3) (tt := tYes) (te := tFld K (tVar 3) "begins") rfl scLength.nd (pi_values (pe_fld (pv 0) rfl))
      (blkOk_by (N := ["self", "first", "last", "span"]) (sc := defScope sLength) (by decide +kernel)) (fun _ _ _ _ _ => pg_name (i := 3) scLength.nd rfl (Or.inl rfl))
      (fun _ _ _ _ _ => pts_nil) (fun _ _ _ _ _ => pe_fld (pv 3) rfl))) pa_nil)))
      (pss_cons (ps_set (i := 2) scLength.nd rfl (Or.inl rfl) (pe_callB (cr_max rfl) (by rfl) T.max (by decide +kernel) (pa_cons (pe_lock (pe_lc (own := [("span", 3)]) (g := gName 3) (tt := tYes) (te := tFld K (tVar 3) "ends") rfl scLength.nd (pi_values (pe_fld (pv 0) rfl))
      (blkOk_by (N := ["self", "first", "last", "span"]) (sc := defScope sLength) (by decide +kernel)) (fun _ _ _ _ _ => pg_name (i := 3) scLength.nd rfl (Or.inl rfl))
      (fun _ _ _ _ _ => pts_nil) (fun _ _ _ _ _ => pe_fld (pv 3) rfl))) pa_nil)))
      (pss_one (ps_ret (pe_op op_sub (pv 2) (pv 1))))), ?_⟩
    obtain ⟨r, l, rfl, ok, pu, hne, k⟩ := h
    have hlen : r.es.length < sizeLine := by
      rw [pu.len]
      exact Nat.lt_of_le_of_lt pu.few (by decide)
    have hpos : 0 < r.es.length := by
      rw [pu.len]
      exact List.length_pos_iff.mpr hne
    refine ⟨r.ds, .dK (kvS r.es), ok.dict, trivial, fun od => ?_⟩
    refine ⟨_, rfl, r.a, CT, r.dx, _, _, rfl, Same.lk ok.ins ok.a_ne, T.cl, T.nSpans, tF_spans r, r.ds, od, kvS r.es, rfl, upd_same, fun D hD => ?_⟩
    refine lc_valsPick (es := r.es) (fun e => (Sum.inl (e.1.id : Int), V.ref e.2)) (fun e => V.int e.1.from_) (fun _ => true) upd_same hD hlen ?_ ?_
    · intro e he H' s2 A B ha hb
      obtain ⟨dx, hsp⟩ := ok.spans e he
      have hsp' := s2 _ _ (Same.lk hsp (ok.sp_ne he))
      refine ⟨rfl, yes_if ?_⟩
      exact ⟨_, rfl, e.2, CS, dx, _, _, rfl, hsp', TS.cl, TS.nBegins, sF_begins _, ha rfl⟩
    · intro H1 s1 hd1
      refine ⟨s1 _ _ upd_same, ?_⟩
      have hDn : D ≠ r.ds := fun z => by
        rw [z, upd_same] at hD
        cases hD
      refine ⟨D, r.es.map fun e => (e.1.from_ : Int), rfl, SqL.of ?_, by rw [List.length_map]; exact hpos, fun a ha1 ha2 => ?_⟩
      · rw [upd_ne hDn, hd1, filter_all, List.map_map]
        rfl
      have sm1 := lock_same ok.dict s1
      have ok1 := ok.same sm1
      generalize upd H1 r.ds (.dK (kvS r.es)) = H2 at sm1 ok1
      refine ⟨r.ds, .dK (kvS r.es), ok1.dict, trivial, fun od2 => ?_⟩
      refine ⟨_, rfl, r.a, CT, r.dx, _, _, rfl, Same.lk ok1.ins ok1.a_ne, T.cl, T.nSpans, tF_spans r, r.ds, od2, kvS r.es, rfl, upd_same, fun D2 hD2 => ?_⟩
      refine lc_valsPick (es := r.es) (fun e => (Sum.inl (e.1.id : Int), V.ref e.2)) (fun e => V.int e.1.to) (fun _ => true) upd_same hD2 hlen ?_ ?_
      · intro e he H' s2 A B ha hb
        obtain ⟨dx, hsp⟩ := ok1.spans e he
        have hsp' := s2 _ _ (Same.lk hsp (ok1.sp_ne he))
        refine ⟨rfl, yes_if ?_⟩
        exact ⟨_, rfl, e.2, CS, dx, _, _, rfl, hsp', TS.cl, TS.nEnds, sF_ends _, ha rfl⟩
      · intro H3 s3 hd3
        refine ⟨s3 _ _ upd_same, ?_⟩
        have hDn2 : D2 ≠ r.ds := fun z => by
          rw [z, upd_same] at hD2
          cases hD2
        refine ⟨D2, r.es.map fun e => (e.1.to : Int), rfl, SqL.of ?_, by rw [List.length_map]; exact hpos, fun b hb1 hb2 => ?_⟩
        · rw [upd_ne hDn2, hd3, filter_all, List.map_map]
          rfl
        have p1 := perm_ints pu (·.from_)
        have p2 := perm_ints pu (·.to)
        have el : b - a = (Sq40.long l : Int) := long_is (fun y hy => (pu.val y hy).1) (p1.mem_iff.mp ha1) (fun y hy => ha2 y (p1.mem_iff.mpr hy)) (p2.mem_iff.mp hb1) (fun y hy => hb2 y (p2.mem_iff.mpr hy))
        refine ⟨_, rfl, _, rfl, _, _, rfl, rfl, ?_⟩
        show Q (.int (b - a)) _
        rw [el]
        exact k _ (sm1.trans (lock_same ok1.dict s3))
end
end Tr
namespace Tr
open PySem PySem.Spec PyProof.Rows L2
abbrev sTreeRows : Stmt := top 6
abbrev sIsWhole : Stmt := top 7
/-! ## Comprehensions that make a tuple a turn -/
def tups {ι : Type} (tv : ι → List V) (H : Hp) (ps : List (ι × Addr)) : Prop := ∀ p ∈ ps, H p.2 = some (.tup (tv p.1))
def prf {ι : Type} (ps : List (ι × Addr)) : List V := ps.map fun p => V.ref p.2
theorem tups.same {ι : Type} {tv : ι → List V} {H H' : Hp} {ps : List (ι × Addr)} (s : Same H H') (h : tups tv H ps) : tups tv H' ps := fun p hp => s _ _ (h p hp)
theorem tups.lst {ι : Type} {tv : ι → List V} {H : Hp} {ps : List (ι × Addr)} {D : Addr} {xs ys : List V} (h : tups tv H ps) (hD : H D = some (.lst xs)) : tups tv (upd H D (.lst ys)) ps := fun p hp => by
  rw [upd_ne (ne_of (h p hp) hD (by intro z; cases z))]
  exact h p hp
theorem lc_tups {ι : Type} {J : It} {G : Hp → Prop} {Y : Nat → Hp → V → Hp → Prop} {es : List ι} (v : ι → V) (tv : ι → List V) {g : TG} {tt : TT} {te : TE} {vs : List Nat} {σ : L2.St} {H1 : Hp} {D : Addr} {Qd : Hp → Prop}
    (w : Walk J es.length G Y) (hY : ∀ i H x H', i < es.length → Y i H x H' → H' = H ∧ ∃ e, es[i]? = some e ∧ x = v e) (hG : ∀ H', Same H1 H' → G H') (hD : H1 D = none) (hn : es.length < sizeLine)
    (turn : ∀ e ∈ es, ∀ H', Same H1 H' → ∀ (A : V → Hp → Prop) (B : Hp → Prop), (∀ q, H' q = none → A (.ref q) (upd H' q (.tup (tv e)))) →
      g (v e) (wipe σ vs) H' fun σ2 H2 => wipe σ2 vs = wipe σ vs ∧ tt σ2 H2 fun b H3 => if b = true then te σ2 H3 A else B H3)
    (hd : ∀ H' (ps : List (ι × Addr)), Same H1 H' → ps.map (·.1) = es → tups tv H' ps → H' D = some (.lst (prf ps)) → Qd H') : LcW J g tt te vs σ H1 D Qd := by
  refine lc_it w (fun i H' => Same H1 H' ∧ ∃ ps : List (ι × Addr), ps.map (·.1) = es.take i ∧ tups tv H' ps ∧ H' D = some (.lst (prf ps))) ⟨sameUpd hD, [], rfl, fun p hp => (by cases hp), upd_same⟩ (fun i H' _ q => hG H' q.1) ?_ ?_
  · rintro i x H H' hi ⟨s1, ps, hm, ht, hd⟩ y
    obtain ⟨rfl, e, he, rfl⟩ := hY i H x H' hi y
    refine turn e (List.mem_of_getElem? he) H' s1 _ _ fun q hq => ?_
    have sq : Same H' (upd H' q (.tup (tv e))) := sameUpd hq
    have hDq := sq _ _ hd
    refine ⟨_, hDq, ?_, samePut (s1.trans sq) hD, ps ++ [(e, q)], ?_, ?_, ?_⟩
    · unfold prf
      rw [List.length_map, ← List.length_map (f := fun p : ι × Addr => p.1), hm]
      refine Nat.lt_of_le_of_lt ?_ hn
      rw [List.length_take]
      omega
    · rw [List.map_append, hm, take_more he]
      rfl
    · refine tups.lst ?_ hDq
      intro p hp
      rcases List.mem_append.mp hp with hp | hp
      · exact sq _ _ (ht p hp)
      · rw [List.mem_singleton.mp hp]
        exact upd_same
    · rw [upd_same]
      unfold prf
      rw [List.map_append]
      rfl
  · rintro H' ⟨s1, ps, hm, ht, hd'⟩
    rw [List.take_length] at hm
    exact hd H' ps s1 hm ht hd'
theorem walk_rev_of {ι : Type} {K : PySem.W.Frag} {a : Addr} (es : List ι) (v : ι → V) : Walk (Itv K a (es.map v).length) es.reverse.length (fun H => SqL K H a (es.map v)) (fun i H x H' => H' = H ∧ (es.map v)[(es.map v).length - 1 - i]? = some x) := by
  have := walk_rev (K := K) (a := a) (xs := es.map v)
  rw [List.length_reverse]
  rw [List.length_map] at *
  exact this
theorem rev_of {ι : Type} {es : List ι} {v : ι → V} {i : Nat} {H : Hp} {x : V} {H' : Hp} (hi : i < es.reverse.length) (y : H' = H ∧ (es.map v)[(es.map v).length - 1 - i]? = some x) : H' = H ∧ ∃ e, es.reverse[i]? = some e ∧ x = v e := by
  obtain ⟨h1, h2⟩ := y
  rw [List.length_reverse] at hi
  rw [List.getElem?_map, List.length_map] at h2
  rw [List.getElem?_reverse hi]
  cases q : es[es.length - 1 - i]? with
  | none =>
    rw [q] at h2
    cases h2
  | some e =>
    rw [q] at h2
    exact ⟨h1, e, rfl, (Option.some.inj h2).symm⟩
/-- over reversed(a list) -/
theorem lc_revTups {ι : Type} {K : PySem.W.Frag} {a : Addr} {es : List ι} (v : ι → V) (tv : ι → List V) {g : TG} {tt : TT} {te : TE} {vs : List Nat} {σ : L2.St} {H1 : Hp} {D : Addr} {Qd : Hp → Prop}
    (ha : SqL K H1 a (es.map v)) (hD : H1 D = none) (hn : es.length < sizeLine)
    (turn : ∀ e ∈ es, ∀ H', Same H1 H' → ∀ (A : V → Hp → Prop) (B : Hp → Prop), (∀ q, H' q = none → A (.ref q) (upd H' q (.tup (tv e)))) →
      g (v e) (wipe σ vs) H' fun σ2 H2 => wipe σ2 vs = wipe σ vs ∧ tt σ2 H2 fun b H3 => if b = true then te σ2 H3 A else B H3)
    (hd : ∀ H' (ps : List (ι × Addr)), Same H1 H' → ps.map (·.1) = es.reverse → tups tv H' ps → H' D = some (.lst (prf ps)) → Qd H') : LcW (Itv K a (es.map v).length) g tt te vs σ H1 D Qd :=
  lc_tups v tv (walk_rev_of es v) (fun i H x H' hi y => rev_of hi y) (fun H' s => s.seq ha) hD (by rw [List.length_reverse]; exact hn) (fun e he => turn e (List.mem_reverse.mp he)) hd
structure TxtN (mg : Str → Option Value) : Prop where
  len : mg "len" = none
  rev : mg "reversed" = none
  max : mg "max" = none
  min : mg "min" = none
  sorted : mg "sorted" = none
  list : mg "list" = none
/-! ## The tree's rows -/
abbrev Row := (Sq40.Span × Addr) × Nat
def rwV (x : Row) : List V := [.ref x.1.2, .int x.2]
def rwM (p : Row × Addr) : Sq40.Span × Nat := (p.1.1.1, p.1.2)
def cvt (d : Nat) (ps : List ((Sq40.Span × Addr) × Addr)) : List (Row × Addr) := ps.map fun p => ((p.1, d), p.2)
theorem cvt_rwM (d : Nat) (ps : List ((Sq40.Span × Addr) × Addr)) : (cvt d ps).map rwM = (ps.map (·.1)).map fun e => (e.1, d) := by
  unfold cvt
  rw [List.map_map, List.map_map]
  rfl
theorem cvt_prf (d : Nat) (ps : List ((Sq40.Span × Addr) × Addr)) : prf (cvt d ps) = prf ps := by
  unfold cvt prf
  rw [List.map_map]
  rfl
theorem cvt_tups {d : Nat} {ps : List ((Sq40.Span × Addr) × Addr)} {H : Hp} (h : tups (fun e : Sq40.Span × Addr => [.ref e.2, .int d]) H ps) : tups rwV H (cvt d ps) := fun p hp => by
  obtain ⟨x, hx, rfl⟩ := List.mem_map.mp hp
  exact h x hx
section
variable {P : Program} {w : World} {K : PySem.W.Frag} {mg : Str → Option Value} {base : Heap} {CS CT : Addr}
def spTreeRows (CS CT : Addr) : Sp := fun vs H Q _ => ∃ (r : TR) (l : List Sq40.Span), vs = [.ref r.a] ∧ TRok CS CT H r ∧ Pure r.es l ∧
  ∀ (H' : Hp) (q : Addr) (ps : List (Row × Addr)), Same H H' → ps.map rwM = Sq40.tree l → (∀ p ∈ ps, p.1.1 ∈ r.es) → tups rwV H' ps → H' q = some (.lst (prf ps)) → Q (.ref q) H'
theorem scTreeRows : FnScope ["trace", "rows", "waiting", "row", "below", "span"] ["trace"] (defScope sTreeRows) := ⟨rfl, rfl, rfl, by decide +kernel, rfl, by decide +kernel, by decide +kernel⟩
theorem ok_treeRows {f f2 f3 : Addr} {fd fd2 fd3 : FuncData} (F : Fun K "tree_rows" "tree_rows" sTreeRows f fd) (TS : TxtS K mg CS) (T : TxtT K mg CT) (N : TxtN mg)
    (G2 : FnOk P w K mg base CX0 2 f2 fd2 ["self"] (spOutermost CS CT)) (m2 : Meth K CT "outermost" f2) (b2 : Binds K fd2 ["self"] [])
    (G3 : FnOk P w K mg base CX0 2 f3 fd3 ["self", "number"] (spRightWithin CS CT)) (m3 : Meth K CT "right_within" f3) (b3 : Binds K fd3 ["self", "number"] []) :
    FnOk P w K mg base CX0 3 f fd ["trace"] (spTreeRows CS CT) := by
  refine F.ok scTreeRows (fun vs H Q E h => ?_) (fun cdv A outer s H vs Q E hr h => ?_)
  · obtain ⟨r, l, rfl, _⟩ := h
    rfl
  · have hu := hu_of hr
    refine ⟨_, pss_cons (ps_set (i := 1) scTreeRows.nd rfl (Or.inl rfl) (pe_lst pa_nil))
      (pss_cons (ps_setLc (i := 2) (own := [("span", 5)]) (g := gName 5) (tt := tYes) (te := tTup (tCons (tVar 5) (tCons (tC (.int 0)) tNil))) rfl scTreeRows.nd rfl rfl (sw_true rfl rfl rfl (by decide +kernel))
        (pi_reversed (by rfl) N.rev (pa_cons (pe_meth0 (pv 0) T.cl m2 G2 hr b2 .nil pass0) pa_nil))
        (blkOk_by (N := ["trace", "rows", "waiting", "row", "below", "span"]) (sc := defScope sTreeRows) (by decide +kernel)) (fun _ _ _ _ _ => pg_name (i := 5) scTreeRows.nd rfl (Or.inl rfl))
        (fun _ _ _ _ _ => pts_nil) (fun _ _ _ _ _ => pe_tup (pa_cons (pv 5) (pa_cons pe_int pa_nil))))
      (pss_cons (ps_while PassesOwn.never (pt_cmpR op_gt (pe_callB call_len_seq (by rfl) N.len PySem.boot_len (pa_cons (pv 2) pa_nil)) pe_int (nomark _))
        (pss_cons (ps_set (i := 3) scTreeRows.nd rfl (Or.inr rfl) (pe_bm0 PySem.F.plainAttrs_list PySem.F.slot_list_pop PySem.F.type_list_pop mt_pop (pv 2)))
        (pss_cons (ps_expr (pe_bm PySem.F.plainAttrs_list PySem.F.slot_list_append PySem.F.type_list_append mt_append (pv 1) (pa_cons (pv 3) pa_nil)))
        (pss_cons (ps_set (i := 4) scTreeRows.nd rfl (Or.inl rfl) (pe_meth (pv 0) T.cl m3 G3 hr b3 .nil pass0 (pa_cons (pe_fld (pe_ix ix_tup (pv 3) pe_int (fun _ _ => rfl)) rfl) pa_nil)))
        (pss_one (ps_expr (pe_bm PySem.F.plainAttrs_list PySem.F.slot_list_extend PySem.F.type_list_extend mt_extend (pv 2) (pa_cons
          (pe_lc (own := [("span", 5)]) (g := gName 5) (tt := tYes) (te := tTup (tCons (tVar 5) (tCons (tOp (rI0 fun i j => .int (i + j)) (tOp (rIxT K) (tVar 3) (tC (.int 1))) (tC (.int 1))) tNil))) rfl scTreeRows.nd
            (pi_reversed (by rfl) N.rev (pa_cons (pv 4) pa_nil))
            (blkOk_by (N := ["trace", "rows", "waiting", "row", "below", "span"]) (sc := defScope sTreeRows) (by decide +kernel)) (fun _ _ _ _ _ => pg_name (i := 5) scTreeRows.nd rfl (Or.inl rfl))
            (fun _ _ _ _ _ => pts_nil) (fun _ _ _ _ _ => pe_tup (pa_cons (pv 5) (pa_cons (pe_op op_add (pe_ix ix_tup (pv 3) pe_int (fun _ _ => rfl)) pe_int) pa_nil)))) pa_nil))))))))
      (pss_one (ps_ret (pv 1))))), ?_⟩
    obtain ⟨r, l, rfl, ok, pu, k⟩ := h
    refine ⟨Nat.zero_le _, fun R hR => ?_⟩
    have sR : Same H (upd H R (.lst [])) := sameUpd hR
    refine ⟨_, rfl, r.a, r.dx, _, rfl, sR _ _ ok.ins, tF_none r (by decide +kernel), r, l, rfl, ok.same sR, pu, fun H1 p es s1 hm hin hn hp => ?_⟩
    refine ⟨p, _, rfl, SqL.of hp, fun D hD => ?_⟩
    have RD : R ≠ D := ne_of_none (s1 _ _ upd_same) hD
    have sH1 : Same H H1 := sR.trans s1
    refine lc_revTups (K := K) (es := es) (fun e => V.ref e.2) (fun e => [.ref e.2, .int 0]) (SqL.of hp) hD (Nat.lt_of_le_of_lt (by
      have := congrArg List.length hm
      rw [List.length_map] at this
      rw [this]
      exact Nat.le_trans (List.length_filter_le _ _) pu.few) (show 60 < sizeLine by decide)) ?_ ?_
    · intro e he H' s2 A B ha
      exact ⟨rfl, yes_if ⟨_, rfl, by show 2 ≤ sizeLine; decide, fun q hq => ha q hq⟩⟩
    intro H2 ps s2 hps htp hD2
    have hst : TInv l [] ((cvt 0 ps).map rwM) := by
      have e : (cvt 0 ps).map rwM = (Sq40.roots l).reverse.map fun x => (x, 0) := by
        rw [cvt_rwM, hps, List.map_reverse, List.map_reverse, ← hm, List.map_map]
        rfl
      rw [e]
      exact TInv.start pu.srt
    have hin0 : ∀ p ∈ cvt 0 ps, p.1.1 ∈ r.es := fun p hp => by
      obtain ⟨x, hx, rfl⟩ := List.mem_map.mp hp
      have : x.1 ∈ es.reverse := by
        rw [← hps]
        exact List.mem_map.mpr ⟨x, hx, rfl⟩
      exact hin _ (List.mem_reverse.mp this)
    refine ⟨fun m σ H' => ∃ (ps1 ps2 : List (Row × Addr)) (v3 v4 v5 : Option V), σ = [some (.ref r.a), some (.ref R), some (.ref D), v3, v4, v5] ∧ Same H H' ∧ H' R = some (.lst (prf ps1)) ∧ H' D = some (.lst (prf ps2)) ∧
      tups rwV H' (ps1 ++ ps2) ∧ (∀ p ∈ ps1 ++ ps2, p.1.1 ∈ r.es) ∧ TInv l (ps1.map rwM) (ps2.map rwM) ∧ m = l.length - ps1.length, ⟨_, [], cvt 0 ps, none, none, none, rfl, sH1.trans s2, s2 _ _ (s1 _ _ upd_same), ?_, ?_, hin0, hst, rfl⟩, ?_⟩
    · rw [cvt_prf]
      exact hD2
    · exact cvt_tups htp
    rintro m σ H' ⟨ps1, ps2, v3, v4, v5, rfl, sH, hR', hD', htp', hin', inv, rfl⟩
    refine ⟨_, rfl, D, _, rfl, .inl (SqL.of hD'), _, _, rfl, rfl, _, rfl, ?_⟩
    rcases List.eq_nil_or_concat ps2 with rfl | ⟨w', t, rfl⟩
    · refine iteF ⟨_, rfl, ?_⟩
      refine k H' R ps1 sH ?_ (fun p hp => hin' p (List.mem_append_left _ hp)) (fun p hp => htp' p (List.mem_append_left _ hp)) hR'
      exact inv.fin
    · have hlen := inv.len
      rw [List.concat_eq_append] at *
      simp only [List.length_map, List.length_append, List.length_cons, List.length_nil] at hlen
      have pos : decide ((0 : Int) < ((prf (w' ++ [t])).length : Int)) = true := by
        unfold prf
        rw [List.length_map, List.length_append]
        exact decide_eq_true (by simp only [List.length_cons, List.length_nil]; omega)
      have few := pu.few
      show (if decide ((0 : Int) < ((prf (w' ++ [t])).length : Int)) = true then _ else _)
      rw [pos]
      refine iteT ⟨_, fun σ' H'' h => h, ?_⟩
      have tm : t.1.1 ∈ r.es := hin' t (by simp)
      have htt : H' t.2 = some (.tup (rwV t.1)) := htp' t (by simp)
      refine ⟨_, rfl, .inl ⟨rfl, _, SqL.of hD'⟩, D, _, .ref t.2, rfl, rfl, hD', ?_, ?_⟩
      · unfold prf
        simp
      have hRa : upd H' D (.lst (prf (w' ++ [t])).dropLast) R = some (.lst (prf ps1)) := by
        rw [upd_ne RD]
        exact hR'
      refine ⟨_, rfl, .inl ⟨rfl, _, SqL.of hRa⟩, _, rfl, R, _, _, rfl, rfl, hRa, ?_, ?_⟩
      · unfold prf
        rw [List.length_map]
        exact Nat.lt_of_le_of_lt (show ps1.length ≤ 60 by omega) (by decide)
      have dl : (prf (w' ++ [t])).dropLast = prf w' := by
        unfold prf
        rw [List.map_append]
        exact List.dropLast_concat
      rw [dl]
      have hb1 : upd (upd H' D (.lst (prf w'))) R (.lst (prf ps1 ++ [.ref t.2])) D = some (.lst (prf w')) := by
        rw [upd_ne RD.symm, upd_same]
      have hb2 : upd (upd H' D (.lst (prf w'))) R (.lst (prf ps1 ++ [.ref t.2])) R = some (.lst (prf (ps1 ++ [t]))) := by
        rw [upd_same]
        unfold prf
        rw [List.map_append]
        rfl
      have hb3 : tups rwV (upd (upd H' D (.lst (prf w'))) R (.lst (prf ps1 ++ [.ref t.2]))) (ps1 ++ (w' ++ [t])) := (htp'.lst hD').lst (xs := prf ps1) (by rw [upd_ne RD]; exact hR')
      have hb4 : Same H (upd (upd H' D (.lst (prf w'))) R (.lst (prf ps1 ++ [.ref t.2]))) := samePut (samePut sH (sH1.free hD)) hR
      generalize upd (upd H' D (.lst (prf w'))) R (.lst (prf ps1 ++ [.ref t.2])) = Hb at hb1 hb2 hb3 hb4
      have okb := ok.same hb4
      obtain ⟨dx, hsp⟩ := okb.spans _ tm
      have htb : Hb t.2 = some (.tup (rwV t.1)) := hb3 t (by simp)
      refine ⟨_, rfl, r.a, r.dx, _, rfl, okb.ins, tF_none r (by decide +kernel), _, rfl, t.2, rwV t.1, 0, _, rfl, rfl, SqT.of htb, atI_nat (j := 0) rfl, t.1.1.2, CS, dx, _, _, rfl, hsp, TS.cl, TS.nNumber, sF_number _,
        t.1.1.1.id, r, l, rfl, okb, pu, fun H3 p3 es3 s3 hm3 hin3 hn3 hp3 => ?_⟩
      replace hm3 : es3.map (·.1) = Sq40.kids l t.1.1.1.id := hm3
      refine ⟨_, rfl, .inl ⟨rfl, _, SqL.of (s3 _ _ hb1)⟩, _, rfl, p3, _, rfl, SqL.of hp3, fun D2 hD2 => ?_⟩
      refine lc_revTups (K := K) (es := es3) (fun e => V.ref e.2) (fun e => [.ref e.2, .int (t.1.2 + 1)]) (SqL.of hp3) hD2 (Nat.lt_of_le_of_lt (by
        have := congrArg List.length hm3
        rw [List.length_map] at this
        rw [this]
        exact Nat.le_trans (List.length_filter_le _ _) pu.few) (show 60 < sizeLine by decide)) ?_ ?_
      · intro e he H'' s4 A B ha
        exact ⟨rfl, yes_if ⟨_, rfl, _, rfl, t.2, rwV t.1, 1, _, rfl, rfl, SqT.of (s4 _ _ (s3 _ _ htb)), atI_nat (j := 1) rfl, _, _, rfl, rfl, by show 2 ≤ sizeLine; decide, fun q hq => ha q hq⟩⟩
      intro H4 ps4 s4 hps4 htp4 hD4
      have s34 := s3.trans s4
      have inv' : TInv l ((ps1 ++ [t]).map rwM) ((w' ++ cvt (t.1.2 + 1) ps4).map rwM) := by
        have i0 := inv
        rw [List.map_append] at i0
        have i1 := TInv.step (x := t.1.1.1) (d := t.1.2) pu.srt i0
        rw [List.map_append, List.map_append, cvt_rwM, hps4, List.map_reverse]
        have e : (es3.map fun e => (e.1, t.1.2 + 1)) = (Sq40.kids l t.1.1.1.id).map fun y => (y, t.1.2 + 1) := by
          rw [← hm3, List.map_map]
          rfl
        rw [List.map_reverse] at i1
        rw [e]
        exact i1
      have lenx := inv'.len
      simp only [List.length_map, List.length_append, List.length_cons, List.length_nil] at lenx
      have DD : D ≠ D2 := ne_of_none (s3 _ _ hb1) hD2
      refine ⟨D, D2, prf w', prf ps4, rfl, rfl, s34 _ _ hb1, hD4, ?_, ?_⟩
      · rw [← cvt_prf (t.1.2 + 1)]
        unfold prf
        rw [List.length_map, List.length_map]
        exact Nat.le_trans (show w'.length + (cvt (t.1.2 + 1) ps4).length ≤ 60 by omega) (by decide)
      · refine ⟨l.length - (ps1 ++ [t]).length, ?_, ps1 ++ [t], w' ++ cvt (t.1.2 + 1) ps4, _, _, _, rfl, ?_, ?_, ?_, ?_, ?_, inv', rfl⟩
        · simp only [List.length_append, List.length_cons, List.length_nil]
          omega
        · exact samePut (hb4.trans s34) (sH1.free hD)
        · rw [upd_ne RD]
          exact s34 _ _ hb2
        · rw [upd_same, ← cvt_prf (t.1.2 + 1)]
          unfold prf
          rw [List.map_append]
        · refine tups.lst ?_ (s34 _ _ hb1)
          intro p hp
          simp only [List.mem_append, List.mem_singleton] at hp
          rcases hp with (hp | hp) | hp | hp
          · exact s34 _ _ (hb3 p (by simp [hp]))
          · exact s34 _ _ (hb3 p (by simp [hp]))
          · exact s34 _ _ (hb3 p (by simp [hp]))
          · exact cvt_tups htp4 p hp
        · intro p hp
          simp only [List.mem_append, List.mem_singleton] at hp
          rcases hp with (hp | hp) | hp | hp
          · exact hin' p (by simp [hp])
          · exact hin' p (by simp [hp])
          · exact hin' p (by simp [hp])
          · obtain ⟨x, hx, rfl⟩ := List.mem_map.mp hp
            have : x.1 ∈ es3.reverse := by
              rw [← hps4]
              exact List.mem_map.mpr ⟨x, hx, rfl⟩
            exact hin3 _ (List.mem_reverse.mp this)
end
end Tr
/-! # list(reversed(a list)) -/
namespace Tr
open PySem PySem.Spec PyProof.Rows L2 RT
section
variable {pg : Program} {wd : World} {Ar : Around} {EE : Value → Shared → Prop} {sh : Shared}
theorem rl_extend {R : Result → Shared → Prop} {it lx S : Addr} {its : Array Value} {res : Value} {ep : Nat} (hh : Ar.handled = none) (hit : sh.heap.IsRevIter it lx ((its.size : Int) - 1)) (hl : sh.heap.IsList lx its) (hne : lx ≠ it) (hn : its.size ≤ sizeLine)
    (hS : sh.heap.get? S = some { cls := .type "list", data := .seq #[] ep }) (hSi : S ≠ it) (hSl : S ≠ lx)
    (hR : ∀ h2 tk acc c2, (∀ b o, b ≠ S → b ≠ it → sh.heap.get? b = some o → h2.get? b = some o) → h2.get? S = some { cls := .type "list", dict := none, data := .seq acc c2, slots := #[] } → ItemsOf (fun i v => its[its.size - 1 - i]? = some v) acc its.size → R (.ok (.ret res)) { sh with heap := h2, toks := tk }) :
    wpAny (model pg wd) Ar.in1 (Builtin.List.listExtendWith (.ref S) (.ref it) res) (fun fin s2 => match fin with | .done f => R (.ok f) s2 | .again c2 => c2.quiet = true ∧ codeAny (model pg wd) Ar c2 R s2) (fun e s2 => R (.error e) s2) sh := by
  have WK := (Walks.listRev (prog := pg) (w := wd) (A := Ar.in1) hh it lx hne its).toS
  have nin : S ∉ [it, lx] := fun m => by
    rcases List.mem_cons.mp m with e | m
    · exact hSi e
    · exact hSl (List.mem_singleton.mp m)
  have tyI : sh.TypeIs (.ref it) "list_reverseiterator" := Heap.IsRevIter.typeIs hit
  have ns : Builtin.List.listSameRef (.ref S) (.ref it) = false := by simp [Builtin.List.listSameRef, hSi]
  unfold Builtin.List.listExtendWith
  refine wpAny_bind (wpAny_typeOf tyI ?_)
  rw [if_neg (by rw [ns]; decide)]
  refine wpAny_bind (wpAny_pyIter_revIter hit ?_)
  refine wpAny_bind (wpAny_holding ?_)
  unfold Builtin.List.listLengthHint
  refine wpAny_bind (wpAny_specialOf tyI nolen_lri ?_)
  show wpAny _ Ar.in1 (specialOf (Value.ref it) (Str.ofString "__length_hint__") >>= _) _ _ _
  refine wpAny_bind (wpAny_specialOf tyI hint_lri ?_)
  generalize hidn : ("list_reverseiterator.__length_hint__" : String) = idn
  wp_delta
  rw [show splitId idn = some ("list_reverseiterator", "__length_hint__") from by subst hidn; decide +kernel]
  subst hidn
  refine wpAny_bind (wpAny_isInstance (b := true) tyI (by rw [isSubtype_type]; kernel_rfl) ?_)
  refine wpAny_pure ?_
  rw [if_neg (by decide)]
  have z0 : ((its.size : Nat) : Int) - 1 - ((0 : Nat) : Int) = (its.size : Int) - 1 := by omega
  refine wpAny_pure ⟨plainId_quiet F.plain_extend_loop _, codeAny_extend_loopS WK hn S nin res its.size 0 _ _ _ rfl (Nat.zero_le _) ⟨Nat.zero_le _, by rw [z0]; exact hit, hl⟩ hS (ItemsOf.nil _) fun s2 acc c2 hm hS2 hacc => ?_⟩
  rw [Moved.eq_with hm]
  refine hR s2.heap s2.toks acc c2 (fun b o hb hb2 e => hm.heap b o (fun m => ?_) e) hS2 hacc
  rcases List.mem_cons.mp m with e2 | m
  · exact hb e2
  · exact hb2 (List.mem_singleton.mp m)
theorem rl_init {R : Result → Shared → Prop} {it lx S : Addr} {its : Array Value} (hh : Ar.handled = none) (hit : sh.heap.IsRevIter it lx ((its.size : Int) - 1)) (hl : sh.heap.IsList lx its) (hne : lx ≠ it) (hn : its.size ≤ sizeLine)
    (hS : sh.heap.get? S = some { cls := .type "list", data := .seq #[] }) (hSi : S ≠ it) (hSl : S ≠ lx)
    (hR : ∀ h2 tk acc c2, (∀ b o, b ≠ S → b ≠ it → sh.heap.get? b = some o → h2.get? b = some o) → h2.get? S = some { cls := .type "list", dict := none, data := .seq acc c2, slots := #[] } → ItemsOf (fun i v => its[its.size - 1 - i]? = some v) acc its.size → R (.ok (.ret .none)) { sh with heap := h2, toks := tk }) :
    wpAny (model pg wd) Ar.in1 (Builtin.«list.__init__» ⟨[.ref S, .ref it], []⟩) (fun fin s2 => match fin with | .done f => R (.ok f) s2 | .again c2 => c2.quiet = true ∧ codeAny (model pg wd) Ar c2 R s2) (fun e s2 => R (.error e) s2) sh := by
  show wpAny _ _ (do let was ← Builtin.List.listItems (.ref S); Builtin.List.listUpdate (.ref S) (fun _ => #[]); letGo was.toList.reverse; Builtin.List.listExtendWith (.ref S) (.ref it) .none) _ _ sh
  refine wpAny_bind ?_
  unfold Builtin.List.listItems
  refine wpAny_bind (wpAny_seqItems hS rfl (wpAny_pure ?_))
  show wpAny _ _ (updateSeq S (fun _ => #[]) >>= fun _ => letGo (#[] : Array Value).toList.reverse >>= fun _ => Builtin.List.listExtendWith (.ref S) (.ref it) .none) _ _ sh
  refine wpAny_bind (wpAny_updateSeq hS rfl ?_)
  have hSb := Heap.get?_update_self (Obj.mapSeq (fun _ => (#[] : Array Value))) hS rfl
  have other : ∀ b o, b ≠ S → sh.heap.get? b = some o → (sh.heap.update S (Obj.mapSeq (fun _ => (#[] : Array Value)))).get? b = some o := fun b o hb e => (Heap.get?_update_other _ _ (Ne.symm hb)).trans e
  refine wpAny_bind (wpAny_letGo ?_)
  refine rl_extend (sh := { sh with heap := sh.heap.update S (Obj.mapSeq (fun _ => (#[] : Array Value))) }) hh (hit.at fun o e => other _ _ (Ne.symm hSi) e) (hl.at fun o e => other _ _ (Ne.symm hSl) e) hne hn hSb hSi hSl fun h2 tk acc c2 hk hS2 hacc => ?_
  exact hR h2 tk acc c2 (fun b o hb hb2 e => hk b o hb hb2 (other b o hb e)) hS2 hacc
theorem rl_call {Q : Value → Shared → Prop} {it lx : Addr} {its : Array Value} (hh : Ar.handled = none) (hit : sh.heap.IsRevIter it lx ((its.size : Int) - 1)) (hl : sh.heap.IsList lx its) (hne : lx ≠ it) (hn : its.size ≤ sizeLine)
    (hQ : ∀ h2 tk acc c2, (∀ b o, b ≠ it → sh.heap.get? b = some o → h2.get? b = some o) → h2.get? sh.heap.objs.size = some { cls := .type "list", dict := none, data := .seq acc c2, slots := #[] } → ItemsOf (fun i v => its[its.size - 1 - i]? = some v) acc its.size → Q (.ref sh.heap.objs.size) { sh with heap := h2, toks := tk }) :
    wpAny (model pg wd) Ar (call (.type "list") [.ref it]) Q EE sh := by
  refine callType_codes (Q₁ := fun ob s2 => ob = .ref sh.heap.objs.size ∧ s2 = { sh with heap := sh.heap.push { cls := .type "list", data := .seq #[] } }) F.called_list (F.typeCall_list_1 _) F.entry_list_init (code_list_new _ ⟨rfl, rfl⟩) fun ob s2 h2 => ?_
  obtain ⟨rfl, rfl⟩ := h2
  have hS : (sh.heap.push { cls := .type "list", data := .seq #[] }).get? sh.heap.objs.size = some { cls := .type "list", data := .seq #[] } := Heap.get?_push_size _ rfl
  obtain ⟨oi, hoi, _⟩ := id hit
  obtain ⟨ol, hol, _⟩ := id hl
  refine ⟨⟨_, hS, rfl⟩, F.args_list_init_2 _ _, rl_init (Ar := Ar.in1) hh (hit.at fun o e => Heap.get?_push_of_some _ e) (hl.push _) hne hn hS (Nat.ne_of_gt (Heap.lt_size hoi)) (Nat.ne_of_gt (Heap.lt_size hol)) fun h2 tk acc c2 hk hS2 hacc => ?_⟩
  exact ⟨rfl, hQ h2 tk acc c2 (fun b o hb e => hk b o (Nat.ne_of_lt (Heap.lt_size e)) hb (Heap.get?_push_of_some _ e)) hS2 hacc⟩
end
section
variable {X : Cx}
def tLstRev (K : PySem.W.Frag) (te : TE) : TE := fun σ H Q => te σ H fun v H1 => ∃ (a : Addr) (xs : List V), v = .ref a ∧ SqL K H1 a xs ∧ ∀ q, H1 q = none → Q (.ref q) (upd H1 q (.lst xs.reverse))
theorem pe_lstRev {e : Expr} {te : TE} {p p2 pos pos2 : Pos} (hc : X.calm = true) (hg : Gl X "list") (hm : X.mg "list" = none) (hg2 : Gl X "reversed") (hm2 : X.mg "reversed" = none) (he : PE X e te)
    (hsa : starEach [e] X.env = (false, eval e X.env) :: starEach [] X.env := by rfl)
    (hsb : starEach [.Call (.Name "reversed" p2) [e] [] pos2] X.env = (false, eval (.Call (.Name "reversed" p2) [e] [] pos2) X.env) :: starEach [] X.env := by rfl) :
    PE X (.Call (.Name "list" p) [.Call (.Name "reversed" p2) [e] [] pos2] [] pos) (tLstRev X.K te) := by
  refine ⟨fun pins s σ H Q I h => ?_⟩
  refine Call_ (ld_blt I hg hm PyProof.Rows.boot_list (PyProof.Rows.callWith_type1 (args_cons (Call_ (ld_blt I hg2 hm2 PyProof.Rows.boot_reversed (PyProof.Rows.callWith_type1 (args_cons (thn (he.run pins s σ H _ I h) fun u sb ⟨v, H1, I1, r1, q1⟩ => args_nil ?_) hsa) hsa rfl))) hsb) hsb rfl))
  obtain ⟨a, xs, ev, hq, q⟩ := q1
  subst ev
  obtain rfl : u = Value.ref a := r1
  obtain ⟨its, rv, p', hz⟩ := I1.list hq
  refine call_reversed_list p'.isList (args_nil ?_)
  obtain ⟨ol, hol, _⟩ := id p'.isList
  have hn : its.toArray.size ≤ sizeLine := Nat.le_trans (Nat.le_of_eq ((List.size_toArray ..).trans rv.length.symm)) hz
  refine rl_call (sh := { sb with heap := sb.heap.push (revObj a ((its.toArray.size : Int) - 1)) }) (I1.ok.hd hc) ⟨_, Heap.get?_push_size _ rfl, rfl, rfl⟩ (p'.isList.push _) (Nat.ne_of_lt (Heap.lt_size hol)) hn fun h2 tk acc c2 hk hS2 hi => ?_
  have len1 : (sb.heap.push (revObj a ((its.toArray.size : Int) - 1))).objs.size = sb.heap.objs.size + 1 := size_push' _ _
  have ge1 : sb.heap.objs.size ≤ (sb.heap.push (revObj a ((its.toArray.size : Int) - 1))).objs.size := by rw [len1]; exact Nat.le_succ _
  refine ⟨.ref _, upd H1 _ (.lst xs.reverse), I1.laid (t' := tk) (fun c o e => hk c o (Nat.ne_of_lt (Heap.lt_size e)) (Heap.get?_push_of_some _ e)) ge1 (show ObjOk X.prog X.w _ _ _ (.lst xs.reverse) from ⟨by rw [List.length_reverse]; exact hz, acc.toList, c2, vals_rev rv hi, ?_⟩), rfl, q _ (I1.hok.fresh ge1)⟩
  rw [Array.toArray_toList]
  exact hS2
end
end Tr
namespace Tr
open PySem PySem.Spec PyProof.Rows L2
abbrev sLastToEnd : Stmt := top 11
abbrev sHung : Stmt := top 12
theorem andV_bool {a b : Bool} : (if a = true then b else false) = (a && b) := by cases a <;> rfl
section
variable {P : Program} {w : World} {K : PySem.W.Frag} {mg : Str → Option Value} {base : Heap} {CS CT : Addr}
def spIsWhole (CS CT : Addr) : Sp := fun vs H Q _ => ∃ (r : TR) (l : List Sq40.Span), vs = [.ref r.a] ∧ TRok CS CT H r ∧ Pure r.es l ∧
  ∀ (H' : Hp), Same H H' → Q (.bl (Sq40.whole l).isSome) H'
theorem scIsWhole : FnScope ["trace"] ["trace"] (defScope sIsWhole) := ⟨rfl, rfl, rfl, by decide +kernel, rfl, by decide +kernel, by decide +kernel⟩
theorem ok_isWhole {f f2 f6 : Addr} {fd fd2 fd6 : FuncData} (F : Fun K "is_whole" "is_whole" sIsWhole f fd) (TS : TxtS K mg CS) (T : TxtT K mg CT) (N : TxtN mg)
    (G2 : FnOk P w K mg base CX0 2 f2 fd2 ["self"] (spOutermost CS CT)) (m2 : Meth K CT "outermost" f2) (b2 : Binds K fd2 ["self"] [])
    (G6 : FnOk P w K mg base CX0 3 f6 fd6 ["trace"] (spTreeRows CS CT)) (g6 : mg "tree_rows" = some (.ref f6)) (k6 : PySem.W.keepIn K (.ref f6) = true) (b6 : Binds K fd6 ["trace"] []) :
    FnOk P w K mg base CX0 4 f fd ["trace"] (spIsWhole CS CT) := by
  refine F.ok scIsWhole (fun vs H Q E h => ?_) (fun cdv A outer s H vs Q E hr h => ?_)
  · obtain ⟨r, l, rfl, _⟩ := h
    rfl
  · refine ⟨_, pss_one (ps_ret (pe_and (pe_cmpR op_eq (pe_callB call_len_seq (by rfl) N.len PySem.boot_len (pa_cons (pe_meth0 (pv 0) T.cl m2 G2 (hr.mono (by decide)) b2 .nil pass0) pa_nil)) pe_int (nomark _))
      (pe_one (pe_cmpR op_eq (pe_callB call_len_seq (by rfl) N.len PySem.boot_len (pa_cons (pe_call G6 hr rfl g6 k6 b6 .nil pass0 (pa_cons (pv 0) pa_nil)) pa_nil)) (pe_callB call_lenD (by rfl) N.len PySem.boot_len (pa_cons (pe_fld (pv 0) rfl) pa_nil)) (nomark _))))), ?_⟩
    obtain ⟨r, l, rfl, ok, pu, k⟩ := h
    refine ⟨_, rfl, r.a, r.dx, _, rfl, ok.ins, tF_none r (by decide +kernel), r, l, rfl, ok, pu, fun H1 p es s1 hm hin hn hp => ?_⟩
    refine ⟨p, _, rfl, .inl (SqL.of hp), rfl, _, rfl, ?_⟩
    have e1 : decide (V.int ((rfs es).length : Int) = V.int 1) = decide ((Sq40.roots l).length = 1) := by
      have : (rfs es).length = (Sq40.roots l).length := by
        rw [← hm]
        unfold rfs
        rw [List.length_map, List.length_map]
      rw [this]
      by_cases c : (Sq40.roots l).length = 1
      · rw [decide_eq_true c, c]
        rfl
      · rw [decide_eq_false c]
        refine decide_eq_false fun z => c ?_
        have := V.int.inj z
        omega
    have ew := whole_is l
    rw [e1]
    cases c : decide ((Sq40.roots l).length = 1) with
    | false =>
      refine iteF ?_
      rw [c, Bool.false_and] at ew
      have := k H1 s1
      rw [ew] at this
      exact this
    | true =>
      refine iteT ?_
      rw [c, Bool.true_and] at ew
      have ok1 := ok.same s1
      refine ⟨_, rfl, r, l, rfl, ok1, pu, fun H2 q ps s2 hps hpin htp hq => ?_⟩
      have ok2 := ok1.same s2
      refine ⟨q, _, rfl, .inl (SqL.of hq), _, rfl, r.a, CT, r.dx, _, _, rfl, ok2.ins, T.cl, T.nSpans, tF_spans r, r.ds, _, rfl, ok2.dict, rfl, ?_⟩
      have e2 : decide (V.int ((prf ps).length : Int) = V.int ((kvS r.es).length : Int)) = decide ((Sq40.tree l).length = l.length) := by
        have a1 : (prf ps).length = (Sq40.tree l).length := by
          rw [← hps]
          unfold prf
          rw [List.length_map, List.length_map]
        have a2 : (kvS r.es).length = l.length := by
          unfold kvS
          rw [List.length_map, pu.len]
        rw [a1, a2]
        by_cases c : (Sq40.tree l).length = l.length
        · rw [decide_eq_true c, c]
          exact decide_eq_true rfl
        · rw [decide_eq_false c]
          refine decide_eq_false fun z => c ?_
          have := V.int.inj z
          omega
      show Q (.bl (decide (V.int ((prf ps).length : Int) = V.int ((kvS r.es).length : Int)))) H2
      rw [e2, ← ew]
      exact k H2 (s1.trans s2)
/-! ## The one that ended last -/
def lastE (a t : Nat) (m : Option (Sq40.Span × Addr)) (e : Sq40.Span × Addr) : Option (Sq40.Span × Addr) :=
  if a < e.1.to ∧ e.1.to ≤ t then (match m with | none => some e | some x => if x.1.to < e.1.to then some e else some x) else m
theorem lastE_fst (a t : Nat) : ∀ (es : List (Sq40.Span × Addr)) (m : Option (Sq40.Span × Addr)), (es.foldl (lastE a t) m).map (·.1) = (es.map (·.1)).foldl (lastStep a t) (m.map (·.1))
  | [], m => rfl
  | e :: es, m => by
    rw [List.foldl_cons, List.map_cons, List.foldl_cons, lastE_fst a t es]
    congr 1
    unfold lastE lastStep
    by_cases c : a < e.1.to ∧ e.1.to ≤ t
    · rw [if_pos c, if_pos c]
      cases m with
      | none => rfl
      | some x =>
        show (if x.1.to < e.1.to then some e else some x).map (·.1) = if x.1.to < e.1.to then some e.1 else some x.1
        by_cases d : x.1.to < e.1.to
        · rw [if_pos d, if_pos d]
          rfl
        · rw [if_neg d, if_neg d]
          rfl
    · rw [if_neg c, if_neg c]
theorem lastE_mem (a t : Nat) : ∀ (es : List (Sq40.Span × Addr)) (m : Option (Sq40.Span × Addr)) (y : Sq40.Span × Addr), es.foldl (lastE a t) m = some y → m = some y ∨ y ∈ es
  | [], m, y, h => .inl h
  | e :: es, m, y, h => by
    rw [List.foldl_cons] at h
    rcases lastE_mem a t es _ y h with q | q
    · unfold lastE at q
      split at q
      · cases m with
        | none =>
          cases q
          exact .inr List.mem_cons_self
        | some x =>
          dsimp only at q
          split at q
          · cases q
            exact .inr List.mem_cons_self
          · exact .inl q
      · exact .inl q
    · exact .inr (List.mem_cons_of_mem _ q)
def oV : Option (Sq40.Span × Addr) → V
  | none => .non
  | some e => .ref e.2
def spLastToEnd (K : PySem.W.Frag) (CS : Addr) : Sp := fun vs H Q _ => ∃ (p : Addr) (es : List (Sq40.Span × Addr)) (a t : Nat), vs = [.ref p, .int a, .int t] ∧ H p = some (.lst (rfs es)) ∧ (∀ e ∈ es, SpanAt CS H e.2 e.1) ∧
  Q (oV (es.foldl (lastE a t) none)) H
theorem scLastToEnd : FnScope ["spans", "start", "end", "last", "span"] ["spans", "start", "end"] (defScope sLastToEnd) := ⟨rfl, rfl, rfl, by decide +kernel, rfl, by decide +kernel, by decide +kernel⟩
theorem ok_lastToEnd {f : Addr} {fd : FuncData} (F : Fun K "last_to_end" "last_to_end" sLastToEnd f fd) (TS : TxtS K mg CS) :
    FnOk P w K mg base CX0 1 f fd ["spans", "start", "end"] (spLastToEnd K CS) := by
  refine F.ok scLastToEnd (fun vs H Q E h => ?_) (fun cdv A outer s H vs Q E hr h => ?_)
  · obtain ⟨p, es, a, t, rfl, _⟩ := h
    rfl
  · refine ⟨_, pss_cons (ps_set (i := 3) scLastToEnd.nd rfl (Or.inl rfl) pe_non)
      (pss_cons (ps_for PassesOwn.never rfl (pi_list (pv 0)) (pg_name (i := 4) scLastToEnd.nd rfl (Or.inl rfl))
        (pss_one (ps_if (PW.pt (pw_and (pt_chain op_lt op_le (pv 1) (pe_fld (pv 4) rfl) (pv 2)) (pw_and1 (PW.pt (pw_or (pt_cmp (pc_isN (pv 3))) (pw_or1 (pt_cmpR op_gt (pe_fld (pv 4) rfl) (pe_fld (pv 3) rfl) (nomark _))))))))
          (pss_one (ps_set (i := 3) scLastToEnd.nd rfl (Or.inl rfl) (pv 4))) pss_nil)))
      (pss_one (ps_ret (pv 3)))), ?_⟩
    obtain ⟨p, es, a, t, rfl, hp, hsp, k⟩ := h
    refine ⟨_, rfl, p, rfl, ⟨_, SqL.of hp⟩, for_list (K := K) (a := p) (xs := rfs es) (fun i σ H' => H' = H ∧ ∃ v4 : Option V, σ = [some (.ref p), some (.int a), some (.int t), some (oV ((es.take i).foldl (lastE a t) none)), v4])
      ⟨rfl, none, rfl⟩ (fun i σ H' _ q => by rw [q.1]; exact SqL.of hp) ?_ ?_⟩
    · rintro i x σ H' hi ⟨rfl, v4, rfl⟩
      obtain ⟨e, he, rfl⟩ : ∃ e, es[i]? = some e ∧ x = .ref e.2 := by
        unfold rfs at hi
        rw [List.getElem?_map] at hi
        cases q : es[i]? with
        | none =>
          rw [q] at hi
          cases hi
        | some e =>
          rw [q] at hi
          exact ⟨e, rfl, (Option.some.inj hi).symm⟩
      have em := List.mem_of_getElem? he
      have step : (es.take (i + 1)).foldl (lastE a t) none = lastE a t ((es.take i).foldl (lastE a t) none) e := by
        rw [take_more he, List.foldl_append]
        rfl
      have mem : ∀ y, (es.take i).foldl (lastE a t) none = some y → y ∈ es := fun y hy => by
        rcases lastE_mem a t _ _ _ hy with q | q
        · cases q
        · exact List.mem_of_mem_take q
      generalize (es.take i).foldl (lastE a t) none = m at step mem
      obtain ⟨dx, hse⟩ := hsp e em
      refine ⟨_, rfl, _, rfl, e.2, CS, dx, _, _, rfl, hse, TS.cl, TS.nEnds, sF_ends _, _, _, rfl, rfl, _, rfl, ?_⟩
      by_cases c1 : (a : Int) < (e.1.to : Int)
      · rw [decide_eq_true c1]
        refine iteT ⟨_, rfl, _, _, rfl, rfl, _, rfl, ?_⟩
        by_cases c2 : (e.1.to : Int) ≤ (t : Int)
        · rw [decide_eq_true c2]
          have c : a < e.1.to ∧ e.1.to ≤ t := by omega
          refine iteT ⟨_, rfl, _, rfl, ?_⟩
          cases m with
          | none =>
            refine iteT ?_
            refine iteT ⟨_, rfl, rfl, some (.ref e.2), ?_⟩
            rw [step]
            unfold lastE
            rw [if_pos c]
            rfl
          | some y =>
            refine iteF ?_
            obtain ⟨dy, hsy⟩ := hsp y (mem y rfl)
            refine ⟨_, rfl, e.2, CS, dx, _, _, rfl, hse, TS.cl, TS.nEnds, sF_ends _, _, rfl, y.2, CS, dy, _, _, rfl, hsy, TS.cl, TS.nEnds, sF_ends _, _, _, rfl, rfl, _, rfl, ?_⟩
            have step2 : lastE a t (some y) e = if y.1.to < e.1.to then some e else some y := if_pos c
            rw [step2] at step
            by_cases c3 : (y.1.to : Int) < (e.1.to : Int)
            · rw [decide_eq_true c3]
              refine iteT ⟨_, rfl, rfl, some (.ref e.2), ?_⟩
              rw [step, if_pos (by omega)]
              rfl
            · rw [decide_eq_false c3]
              refine iteF ⟨rfl, some (.ref e.2), ?_⟩
              rw [step, if_neg (by omega)]
              rfl
        · rw [decide_eq_false c2]
          refine iteF ?_
          refine iteF ⟨rfl, some (.ref e.2), ?_⟩
          rw [step]
          unfold lastE
          rw [if_neg (by omega)]
          rfl
      · rw [decide_eq_false c1]
        refine iteF ⟨_, rfl, ?_⟩
        refine iteF ?_
        refine iteF ⟨rfl, some (.ref e.2), ?_⟩
        rw [step]
        unfold lastE
        rw [if_neg (by omega)]
        rfl
    · rintro σ H' ⟨rfl, v4, rfl⟩
      refine ⟨_, rfl, ?_⟩
      have : (rfs es).length = es.length := by
        unfold rfs
        rw [List.length_map]
      rw [this, List.take_length]
      exact k
end
end Tr
namespace Tr
open PySem PySem.Spec PyProof.Rows L2
abbrev Prt := (Sq40.Span × Addr) × Nat × Nat
def ptV (x : Prt) : List V := [.ref x.1.2, .int x.2.1, .int x.2.2]
def ptM (p : Prt × Addr) : Part := (p.1.1.1, p.1.2.1, p.1.2.2)
theorem prf_app {ι : Type} (a b : List (ι × Addr)) : prf (a ++ b) = prf a ++ prf b := by
  unfold prf
  rw [List.map_append]
theorem prf_len {ι : Type} (a : List (ι × Addr)) : (prf a).length = a.length := by
  unfold prf
  rw [List.length_map]
theorem prf_last {ι : Type} (a : List (ι × Addr)) (t : ι × Addr) : (prf (a ++ [t]))[(prf (a ++ [t])).length - 1]? = some (.ref t.2) := by
  unfold prf
  simp
theorem prf_drop {ι : Type} (a : List (ι × Addr)) (t : ι × Addr) : (prf (a ++ [t])).dropLast = prf a := by
  unfold prf
  rw [List.map_append]
  exact List.dropLast_concat
theorem tups.upd {ι : Type} {tv : ι → List V} {H : Hp} {ps : List (ι × Addr)} {D : Addr} {o : HO} (h : tups tv H ps) (hD : H D = none) : tups tv (upd H D o) ps := h.same (sameUpd hD)
theorem tups.app {ι : Type} {tv : ι → List V} {H : Hp} {a b : List (ι × Addr)} (h1 : tups tv H a) (h2 : tups tv H b) : tups tv H (a ++ b) := fun p hp => by
  rcases List.mem_append.mp hp with hp | hp
  · exact h1 p hp
  · exact h2 p hp
theorem tups.left {ι : Type} {tv : ι → List V} {H : Hp} {a b : List (ι × Addr)} (h : tups tv H (a ++ b)) : tups tv H a := fun p hp => h p (List.mem_append_left _ hp)
theorem tups.right {ι : Type} {tv : ι → List V} {H : Hp} {a b : List (ι × Addr)} (h : tups tv H (a ++ b)) : tups tv H b := fun p hp => h p (List.mem_append_right _ hp)
theorem tups.one {ι : Type} {tv : ι → List V} {H : Hp} {x : ι} {q : Addr} (h : H q = some (.tup (tv x))) : tups tv H [(x, q)] := fun p hp => by
  rw [List.mem_singleton.mp hp]
  exact h
section
variable {P : Program} {w : World} {K : PySem.W.Frag} {mg : Str → Option Value} {base : Heap} {CS CT : Addr}
def spHung (CS CT : Addr) : Sp := fun vs H Q _ => ∃ (r : TR) (l : List Sq40.Span) (x0 : Sq40.Span), vs = [.ref r.a] ∧ TRok CS CT H r ∧ Pure r.es l ∧ Sq40.roots l = [x0] ∧
  ∀ (H' : Hp) (q : Addr) (ps : List (Prt × Addr)), Same H H' → ps.map ptM = (walkX l x0 x0.from_ x0.to).1 → (∀ p ∈ ps, p.1.1 ∈ r.es) → tups ptV H' ps → H' q = some (.lst (prf ps)) → Q (.ref q) H'
theorem scHung : FnScope ["trace", "whole", "backward", "waiting", "part", "span", "start", "end", "inner", "middle"] ["trace"] (defScope sHung) := ⟨rfl, rfl, rfl, by decide +kernel, rfl, by decide +kernel, by decide +kernel⟩
theorem ok_hung {f f2 f3 f4 : Addr} {fd fd2 fd3 fd4 : FuncData} (F : Fun K "hung_stretches" "hung_stretches" sHung f fd) (TS : TxtS K mg CS) (T : TxtT K mg CT) (N : TxtN mg)
    (G2 : FnOk P w K mg base CX0 2 f2 fd2 ["self"] (spOutermost CS CT)) (m2 : Meth K CT "outermost" f2) (b2 : Binds K fd2 ["self"] [])
    (G3 : FnOk P w K mg base CX0 2 f3 fd3 ["self", "number"] (spRightWithin CS CT)) (m3 : Meth K CT "right_within" f3) (b3 : Binds K fd3 ["self", "number"] [])
    (G4 : FnOk P w K mg base CX0 1 f4 fd4 ["spans", "start", "end"] (spLastToEnd K CS)) (g4 : mg "last_to_end" = some (.ref f4)) (k4 : PySem.W.keepIn K (.ref f4) = true) (b4 : Binds K fd4 ["spans", "start", "end"] []) :
    FnOk P w K mg base CX0 3 f fd ["trace"] (spHung CS CT) := by
  refine F.ok scHung (fun vs H Q E h => ?_) (fun cdv A outer s H vs Q E hr h => ?_)
  · obtain ⟨r, l, x0, rfl, _⟩ := h
    rfl
  · refine ⟨_, pss_cons (ps_set (i := 1) scHung.nd rfl (Or.inl rfl) (pe_ix ix_list (pe_meth0 (pv 0) T.cl m2 G2 hr b2 .nil pass0) pe_int (fun _ _ => rfl)))
      (pss_cons (ps_set (i := 2) scHung.nd rfl (Or.inl rfl) (pe_lst pa_nil))
      (pss_cons (ps_set (i := 3) scHung.nd rfl (Or.inl rfl) (pe_lst (pa_cons (pe_tup (pa_cons (pv 1) (pa_cons (pe_fld (pv 1) rfl) (pa_cons (pe_fld (pv 1) rfl) pa_nil)))) pa_nil)))
      (pss_cons (ps_while PassesOwn.never (pt_cmpR op_gt (pe_callB call_len_seq (by rfl) N.len PySem.boot_len (pa_cons (pv 3) pa_nil)) pe_int (nomark _))
        (pss_cons (ps_set (i := 4) scHung.nd rfl (Or.inl rfl) (pe_bm0 PySem.F.plainAttrs_list PySem.F.slot_list_pop PySem.F.type_list_pop mt_pop (pv 3)))
        (pss_cons (ps_set (i := 5) scHung.nd rfl (Or.inl rfl) (pe_ix ix_tup (pv 4) pe_int (fun _ _ => rfl)))
        (pss_cons (ps_set (i := 6) scHung.nd rfl (Or.inl rfl) (pe_ix ix_tup (pv 4) pe_int (fun _ _ => rfl)))
        (pss_cons (ps_set (i := 7) scHung.nd rfl (Or.inl rfl) (pe_ix ix_tup (pv 4) pe_int (fun _ _ => rfl)))
        (pss_cons (ps_if (pt_cmpR op_le (pv 7) (pv 6) (nomark _)) (pss_one ps_continue) pss_nil)
        (pss_cons (ps_set (i := 8) scHung.nd rfl (Or.inl rfl) (pe_call G4 (hr.mono (by decide)) rfl g4 k4 b4 .nil pass0 (pa_cons (pe_meth (pv 0) T.cl m3 G3 hr b3 .nil pass0 (pa_cons (pe_fld (pv 5) rfl) pa_nil)) (pa_cons (pv 6) (pa_cons (pv 7) pa_nil)))))
        (pss_cons (ps_if (pt_cmp (pc_isN (pv 8))) (pss_cons (ps_expr (pe_bm PySem.F.plainAttrs_list PySem.F.slot_list_append PySem.F.type_list_append mt_append (pv 2) (pa_cons (pv 4) pa_nil))) (pss_one ps_continue)) pss_nil)
        (pss_cons (ps_if (pt_cmpR op_lt (pe_fld (pv 8) rfl) (pv 7) (nomark _)) (pss_one (ps_expr (pe_bm PySem.F.plainAttrs_list PySem.F.slot_list_append PySem.F.type_list_append mt_append (pv 2) (pa_cons (pe_tup (pa_cons (pv 5) (pa_cons (pe_fld (pv 8) rfl) (pa_cons (pv 7) pa_nil)))) pa_nil)))) pss_nil)
        (pss_cons (ps_set (i := 9) scHung.nd rfl (Or.inl rfl) (pe_callB (call_max2 rfl) (by rfl) N.max (by decide +kernel) (pa_cons (pe_fld (pv 8) rfl) (pa_cons (pv 6) pa_nil))))
        (pss_cons (ps_expr (pe_bm PySem.F.plainAttrs_list PySem.F.slot_list_append PySem.F.type_list_append mt_append (pv 3) (pa_cons (pe_tup (pa_cons (pv 5) (pa_cons (pv 6) (pa_cons (pv 9) pa_nil)))) pa_nil)))
        (pss_one (ps_expr (pe_bm PySem.F.plainAttrs_list PySem.F.slot_list_append PySem.F.type_list_append mt_append (pv 3) (pa_cons (pe_tup (pa_cons (pv 8) (pa_cons (pv 9) (pa_cons (pe_fld (pv 8) rfl) pa_nil)))) pa_nil)))))))))))))))
      (pss_one (ps_ret (pe_lstRev rfl (by rfl) N.list (by rfl) N.rev (pv 2))))))), ?_⟩
    obtain ⟨r, l, x0, rfl, ok, pu, hroot, k⟩ := h
    have hv : ∀ y ∈ l, y.from_ < y.to := fun y hy => (pu.val y hy).1
    refine ⟨_, rfl, r.a, r.dx, _, rfl, ok.ins, tF_none r (by decide +kernel), r, l, rfl, ok, pu, fun H1 p es s1 hm hin hn hp => ?_⟩
    replace hm : es.map (·.1) = Sq40.roots l := hm
    obtain ⟨e0, rfl, he0⟩ : ∃ e0, es = [e0] ∧ e0.1 = x0 := by
      rw [hroot] at hm
      cases es with
      | nil => cases hm
      | cons e0 t =>
        cases t with
        | nil => exact ⟨e0, rfl, (List.cons.inj hm).1⟩
        | cons a b => cases hm
    have hx0 : Dep l 0 x0 := by
      have : x0 ∈ Sq40.roots l := by rw [hroot]; exact List.mem_singleton.mpr rfl
      exact mem_roots.mp this
    have e0in : e0 ∈ r.es := hin e0 (by simp)
    refine ⟨p, _, 0, _, rfl, rfl, SqL.of hp, atI_nat (j := 0) rfl, Nat.zero_le _, fun B hB => ?_⟩
    have sB : Same H (upd H1 B (.lst [])) := s1.trans (sameUpd hB)
    obtain ⟨dx0, hs0⟩ := (ok.same sB).spans e0 e0in
    refine ⟨_, rfl, _, rfl, e0.2, CS, dx0, _, _, rfl, hs0, TS.cl, TS.nBegins, sF_begins _, _, rfl, e0.2, CS, dx0, _, _, rfl, hs0, TS.cl, TS.nEnds, sF_ends _, by show 3 ≤ sizeLine; decide, fun q0 hq0 => ?_⟩
    refine ⟨by show 1 ≤ sizeLine; decide, fun D hD => ?_⟩
    have BD : B ≠ D := ne_of_none (sameUpd hq0 _ _ upd_same) hD
    have sq : Same H (upd (upd H1 B (.lst [])) q0 (.tup [.ref e0.2, .int e0.1.from_, .int e0.1.to])) := sB.trans (sameUpd hq0)
    have hBn : H B = none := s1.free hB
    have hDn : H D = none := sq.free hD
    refine ⟨fun m σ H' => ∃ (bs ws : List (Prt × Addr)) (v4 v5 v6 v7 v8 v9 : Option V), σ = [some (.ref r.a), some (.ref e0.2), some (.ref B), some (.ref D), v4, v5, v6, v7, v8, v9] ∧ Same H H' ∧ H' B = some (.lst (prf bs)) ∧ H' D = some (.lst (prf ws)) ∧
      tups ptV H' (bs ++ ws) ∧ (∀ p ∈ bs ++ ws, p.1.1 ∈ r.es) ∧ HInv l x0 (bs.map ptM) (ws.map ptM) ∧ m = HInv.left l (ws.map ptM),
      ⟨_, [], [((e0, e0.1.from_, e0.1.to), q0)], none, none, none, none, none, none, rfl, sq.trans (sameUpd hD), ?_, upd_same, ?_, ?_, ?_, rfl⟩, ?_⟩
    · rw [upd_ne BD]
      exact sameUpd hq0 _ _ upd_same
    · exact tups.one (sameUpd hD _ _ upd_same)
    · intro p hp
      rw [List.mem_singleton.mp hp]
      exact e0in
    · have := HInv.start hx0
      rw [← he0] at this ⊢
      exact this
    rintro m σ H' ⟨bs, ws, v4, v5, v6, v7, v8, v9, rfl, sH, hB', hD', htp, hpin, inv, rfl⟩
    refine ⟨_, rfl, D, _, rfl, .inl (SqL.of hD'), _, _, rfl, rfl, _, rfl, ?_⟩
    rcases List.eq_nil_or_concat ws with rfl | ⟨w', t, rfl⟩
    · refine iteF ⟨_, rfl, B, _, rfl, SqL.of hB', fun q hq => ?_⟩
      refine k _ q bs.reverse (samePut sH (sH.free hq)) ?_ (fun p hp => hpin p (List.mem_append_left _ (List.mem_reverse.mp hp))) (fun p hp => sameUpd hq _ _ (htp p (List.mem_append_left _ (List.mem_reverse.mp hp)))) ?_
      · rw [List.map_reverse]
        exact inv.fin
      · rw [upd_same]
        unfold prf
        rw [List.map_reverse]
    · rw [List.concat_eq_append] at *
      have few := pu.few
      have hx0to : x0.to ≤ 1000000 := (pu.val x0 hx0.1).2.1
      rw [List.map_append] at inv
      replace inv : HInv l x0 (bs.map ptM) (w'.map ptM ++ [(t.1.1.1, t.1.2.1, t.1.2.2)]) := inv
      have hlen := inv.wlen pu.srt
      simp only [List.length_map, List.length_append, List.length_cons, List.length_nil] at hlen
      have elft : HInv.left l ((w' ++ [t]).map ptM) = HInv.left l (w'.map ptM ++ [(t.1.1.1, t.1.2.1, t.1.2.2)]) := by
        rw [List.map_append]
        rfl
      have pos : decide ((0 : Int) < ((prf (w' ++ [t])).length : Int)) = true := by
        rw [prf_len, List.length_append]
        exact decide_eq_true (by simp only [List.length_cons, List.length_nil]; omega)
      show (if decide ((0 : Int) < ((prf (w' ++ [t])).length : Int)) = true then _ else _)
      rw [pos]
      refine iteT ⟨_, fun σ' H'' h => h, ?_⟩
      have tm : t.1.1 ∈ r.es := hpin t (by simp)
      refine ⟨_, rfl, .inl ⟨rfl, _, SqL.of hD'⟩, D, _, .ref t.2, rfl, rfl, hD', prf_last _ _, ?_⟩
      rw [prf_drop]
      have a1 : upd H' D (.lst (prf w')) B = some (.lst (prf bs)) := by
        rw [upd_ne BD]
        exact hB'
      have a2 : upd H' D (.lst (prf w')) D = some (.lst (prf w')) := upd_same
      have a3 : tups ptV (upd H' D (.lst (prf w'))) (bs ++ (w' ++ [t])) := htp.lst hD'
      have a4 : Same H (upd H' D (.lst (prf w'))) := samePut sH hDn
      generalize upd H' D (.lst (prf w')) = Ha at a1 a2 a3 a4
      have htt : Ha t.2 = some (.tup (ptV t.1)) := a3 t (by simp)
      have oka := ok.same a4
      refine ⟨_, rfl, t.2, ptV t.1, 0, _, rfl, rfl, SqT.of htt, atI_nat (j := 0) rfl, ?_⟩
      refine ⟨_, rfl, t.2, ptV t.1, 1, _, rfl, rfl, SqT.of htt, atI_nat (j := 1) rfl, ?_⟩
      refine ⟨_, rfl, t.2, ptV t.1, 2, _, rfl, rfl, SqT.of htt, atI_nat (j := 2) rfl, ?_⟩
      refine ⟨_, rfl, _, rfl, _, _, rfl, rfl, _, rfl, ?_⟩
      have bwin : ∀ p ∈ bs ++ w', p.1.1 ∈ r.es := fun p hp => hpin p (by
        rw [← List.append_assoc]
        exact List.mem_append_left _ hp)
      have btw : tups ptV Ha (bs ++ w') := fun p hp => a3 p (by
        rw [← List.append_assoc]
        exact List.mem_append_left _ hp)
      by_cases c : (t.1.2.2 : Int) ≤ (t.1.2.1 : Int)
      · rw [decide_eq_true c]
        refine iteT ⟨_, ?_, bs, w', _, _, _, _, _, _, rfl, a4, a1, a2, btw, bwin, inv.skip (by omega), rfl⟩
        rw [elft]
        exact left_pop
      rw [decide_eq_false c]
      refine iteF ?_
      obtain ⟨dx, hsp⟩ := oka.spans _ tm
      refine ⟨_, rfl, r.a, r.dx, _, rfl, oka.ins, tF_none r (by decide +kernel), _, rfl, t.1.1.2, CS, dx, _, _, rfl, hsp, TS.cl, TS.nNumber, sF_number _, t.1.1.1.id, r, l, rfl, oka, pu, fun H3 p3 es3 s3 hm3 hin3 hn3 hp3 => ?_⟩
      replace hm3 : es3.map (·.1) = Sq40.kids l t.1.1.1.id := hm3
      have ok3 := oka.same s3
      refine ⟨_, rfl, _, rfl, p3, es3, t.1.2.1, t.1.2.2, rfl, hp3, fun e he => ok3.spans e (hin3 e he), ?_⟩
      have hlast : (es3.foldl (lastE t.1.2.1 t.1.2.2) none).map (·.1) = Sq40.lastBy (Sq40.kids l t.1.1.1.id) t.1.2.1 t.1.2.2 := by
        rw [lastE_fst, hm3, lastBy_is fun y hy => hv y (mem_kids.mp hy).1]
        rfl
      have hmem : ∀ y, es3.foldl (lastE t.1.2.1 t.1.2.2) none = some y → y ∈ r.es := fun y hy => by
        rcases lastE_mem _ _ _ _ _ hy with q | q
        · cases q
        · exact hin3 y q
      generalize es3.foldl (lastE t.1.2.1 t.1.2.2) none = mm at hlast hmem
      have b1 := s3 _ _ a1
      have b2' := s3 _ _ a2
      have b3' := a3.same s3
      have b4' := a4.trans s3
      have btw3 := btw.same s3
      refine ⟨_, rfl, _, rfl, ?_⟩
      cases mm with
      | none =>
        have inv' := inv.leaf (by omega) hlast.symm
        have hbl := inv'.blen hv
        simp only [List.length_append, List.length_map, List.length_cons, List.length_nil] at hbl
        refine iteT ⟨_, rfl, .inl ⟨rfl, _, SqL.of b1⟩, _, rfl, B, _, _, rfl, rfl, b1, ?_, ?_⟩
        · rw [prf_len]
          exact Nat.lt_of_le_of_lt (show bs.length ≤ 1000000 by omega) (by decide)
        · refine ⟨_, ?_, bs ++ [t], w', _, _, _, _, _, _, rfl, samePut b4' hBn, ?_, ?_, ?_, ?_, ?_, rfl⟩
          · rw [elft]
            exact left_pop
          · rw [upd_same, prf_app]
            rfl
          · rw [upd_ne BD.symm]
            exact b2'
          · refine tups.lst ?_ b1
            intro p hp
            refine b3' p ?_
            simp only [List.mem_append, List.mem_singleton] at hp ⊢
            rcases hp with (hp | hp) | hp
            · exact .inl hp
            · exact .inr (.inr hp)
            · exact .inr (.inl hp)
          · intro p hp
            refine hpin p ?_
            simp only [List.mem_append, List.mem_singleton] at hp ⊢
            rcases hp with (hp | hp) | hp
            · exact .inl hp
            · exact .inr (.inr hp)
            · exact .inr (.inl hp)
          · rw [List.map_append]
            exact inv'
      | some y =>
        refine iteF ?_
        have ym : y ∈ r.es := hmem y rfl
        replace hlast : Sq40.lastBy (Sq40.kids l t.1.1.1.id) t.1.2.1 t.1.2.2 = some y.1 := hlast.symm
        obtain ⟨dy, hsy⟩ := ok3.spans y ym
        have inv' := inv.split pu.srt hv (by omega) hlast
        have hd : Dep l w'.length t.1.1.1 := by
          have := inv.dep (w'.map ptM).length (t.1.1.1, t.1.2.1, t.1.2.2) (by simp)
          rw [List.length_map] at this
          exact this
        have lft := left_split (w := w'.map ptM) pu.srt hv hd (by omega) hlast
        refine ⟨_, rfl, y.2, CS, dy, _, _, rfl, hsy, TS.cl, TS.nEnds, sF_ends _, _, rfl, _, _, rfl, rfl, _, rfl, ?_⟩
        have hbl := inv'.blen hv
        by_cases c3 : (y.1.to : Int) < (t.1.2.2 : Int)
        case' pos =>
          rw [decide_eq_true c3]
          rw [if_pos (show y.1.to < t.1.2.2 by omega)] at inv' hbl
          simp only [List.length_append, List.length_map, List.length_cons, List.length_nil] at hbl
          refine iteT ⟨_, rfl, .inl ⟨rfl, _, SqL.of b1⟩, _, rfl, _, rfl, y.2, CS, dy, _, _, rfl, hsy, TS.cl, TS.nEnds, sF_ends _, _, rfl, by show 3 ≤ sizeLine; decide, fun q hq => ⟨B, _, _, rfl, rfl, sameUpd hq _ _ b1, ?_, ?_⟩⟩
          · rw [prf_len]
            exact Nat.lt_of_le_of_lt (show bs.length ≤ 1000000 by omega) (by decide)
          have d1 : upd (upd H3 q (.tup [.ref t.1.1.2, .int y.1.to, .int t.1.2.2])) B (.lst (prf bs ++ [.ref q])) B = some (.lst (prf (bs ++ [((t.1.1, y.1.to, t.1.2.2), q)]))) := by
            rw [upd_same, prf_app]
            rfl
          have d2 : upd (upd H3 q (.tup [.ref t.1.1.2, .int y.1.to, .int t.1.2.2])) B (.lst (prf bs ++ [.ref q])) D = some (.lst (prf w')) := by
            rw [upd_ne BD.symm]
            exact sameUpd hq _ _ b2'
          have d3 : tups ptV (upd (upd H3 q (.tup [.ref t.1.1.2, .int y.1.to, .int t.1.2.2])) B (.lst (prf bs ++ [.ref q]))) ((bs ++ [((t.1.1, y.1.to, t.1.2.2), q)]) ++ w') := by
            refine tups.lst ?_ (sameUpd hq _ _ b1)
            exact ((btw3.left.upd hq).app (tups.one upd_same)).app (btw3.right.upd hq)
          have d4 : Same H (upd (upd H3 q (.tup [.ref t.1.1.2, .int y.1.to, .int t.1.2.2])) B (.lst (prf bs ++ [.ref q]))) := samePut (b4'.trans (sameUpd hq)) hBn
          have d5 : ∀ p ∈ (bs ++ [((t.1.1, y.1.to, t.1.2.2), q)]) ++ w', p.1.1 ∈ r.es := fun p hp => by
            simp only [List.mem_append, List.mem_singleton] at hp
            rcases hp with (hp | hp) | hp
            · exact bwin p (List.mem_append_left _ hp)
            · rw [hp]
              exact tm
            · exact bwin p (List.mem_append_right _ hp)
          replace inv' : HInv l x0 ((bs ++ [((t.1.1, y.1.to, t.1.2.2), q)]).map ptM) (w'.map ptM ++ [(t.1.1.1, t.1.2.1, max y.1.from_ t.1.2.1), (y.1, max y.1.from_ t.1.2.1, y.1.to)]) := by
            rw [List.map_append]
            exact inv'
          generalize upd (upd H3 q (.tup [.ref t.1.1.2, .int y.1.to, .int t.1.2.2])) B (.lst (prf bs ++ [.ref q])) = Hc at d1 d2 d3 d4
          generalize (bs ++ [((t.1.1, y.1.to, t.1.2.2), q)]) = bc at d1 d2 d3 d5 inv'
        case' neg =>
          rw [decide_eq_false c3]
          rw [if_neg (show ¬ y.1.to < t.1.2.2 by omega), List.append_nil] at inv'
          refine iteF ?_
          have d1 := b1
          have d2 := b2'
          have d3 := btw3
          have d4 := b4'
          have d5 := bwin
          generalize H3 = Hc at d1 d2 d3 d4
          generalize bs = bc at d1 d2 d3 d5 inv'
        all_goals
          have okc := ok.same d4
          obtain ⟨dz, hsz⟩ := okc.spans y ym
          have emid : (if (t.1.2.1 : Int) > (y.1.from_ : Int) then (t.1.2.1 : Int) else (y.1.from_ : Int)) = ((max y.1.from_ t.1.2.1 : Nat) : Int) := by
            split <;> omega
          have wl := inv'.wlen pu.srt
          simp only [List.length_map, List.length_append, List.length_cons, List.length_nil] at wl
          refine ⟨_, rfl, y.2, CS, dz, _, _, rfl, hsz, TS.cl, TS.nBegins, sF_begins _, _, rfl, _, _, rfl, ?_⟩
          rw [emid]
          refine ⟨_, rfl, .inl ⟨rfl, _, SqL.of d2⟩, _, rfl, _, rfl, _, rfl, by show 3 ≤ sizeLine; decide, fun q1 hq1 => ⟨D, _, _, rfl, rfl, sameUpd hq1 _ _ d2, ?_, ?_⟩⟩
          · rw [prf_len]
            exact Nat.lt_of_le_of_lt (show w'.length ≤ 60 by omega) (by decide)
          have f1 : tups ptV (upd (upd Hc q1 (.tup [.ref t.1.1.2, .int t.1.2.1, .int (max y.1.from_ t.1.2.1 : Nat)])) D (.lst (prf w' ++ [.ref q1]))) ((bc ++ w') ++ [((t.1.1, t.1.2.1, max y.1.from_ t.1.2.1), q1)]) := tups.lst ((d3.upd hq1).app (tups.one upd_same)) (sameUpd hq1 _ _ d2)
          have f2 : upd (upd Hc q1 (.tup [.ref t.1.1.2, .int t.1.2.1, .int (max y.1.from_ t.1.2.1 : Nat)])) D (.lst (prf w' ++ [.ref q1])) D = some (.lst (prf w' ++ [.ref q1])) := upd_same
          have f3 : upd (upd Hc q1 (.tup [.ref t.1.1.2, .int t.1.2.1, .int (max y.1.from_ t.1.2.1 : Nat)])) D (.lst (prf w' ++ [.ref q1])) B = some (.lst (prf bc)) := by
            rw [upd_ne BD]
            exact sameUpd hq1 _ _ d1
          have f4 : Same H (upd (upd Hc q1 (.tup [.ref t.1.1.2, .int t.1.2.1, .int (max y.1.from_ t.1.2.1 : Nat)])) D (.lst (prf w' ++ [.ref q1]))) := samePut (d4.trans (sameUpd hq1)) hDn
          generalize upd (upd Hc q1 (.tup [.ref t.1.1.2, .int t.1.2.1, .int (max y.1.from_ t.1.2.1 : Nat)])) D (.lst (prf w' ++ [.ref q1])) = Hd at f1 f2 f3 f4
          obtain ⟨du, hsu⟩ := (ok.same f4).spans y ym
          refine ⟨_, rfl, .inl ⟨rfl, _, SqL.of f2⟩, _, rfl, _, rfl, _, rfl, y.2, CS, du, _, _, rfl, hsu, TS.cl, TS.nEnds, sF_ends _, by show 3 ≤ sizeLine; decide, fun q2 hq2 => ⟨D, _, _, rfl, rfl, sameUpd hq2 _ _ f2, ?_, ?_⟩⟩
          · rw [List.length_append, prf_len]
            exact Nat.lt_of_le_of_lt (show w'.length + 1 ≤ 60 by omega) (by decide)
          refine ⟨_, ?_, bc, w' ++ [((t.1.1, t.1.2.1, max y.1.from_ t.1.2.1), q1), ((y, max y.1.from_ t.1.2.1, y.1.to), q2)], _, _, _, _, _, _, rfl, samePut (f4.trans (sameUpd hq2)) hDn, ?_, ?_, ?_, ?_, ?_, rfl⟩
          · rw [elft, List.map_append]
            exact lft
          · rw [upd_ne BD]
            exact sameUpd hq2 _ _ f3
          · rw [upd_same, prf_app, List.append_assoc]
            rfl
          · refine tups.lst ?_ (sameUpd hq2 _ _ f2)
            intro p hp
            simp only [List.mem_append, List.mem_cons, List.not_mem_nil, or_false] at hp
            rcases hp with hp | hp | hp | hp
            · exact sameUpd hq2 _ _ (f1 p (by simp [hp]))
            · exact sameUpd hq2 _ _ (f1 p (by simp [hp]))
            · exact sameUpd hq2 _ _ (f1 p (by simp [hp]))
            · rw [hp]
              exact upd_same
          · intro p hp
            simp only [List.mem_append, List.mem_cons, List.not_mem_nil, or_false] at hp
            rcases hp with hp | hp | hp | hp
            · exact d5 p (by simp [hp])
            · exact d5 p (by simp [hp])
            · rw [hp]
              exact tm
            · rw [hp]
              exact ym
          · rw [List.map_append]
            exact inv'
end
end Tr
/-! # sorted(a list, key = a function object of the heap): by any weak order of the keys, over any invariant of the heap -/
namespace Tr
open PySem PySem.Spec PyProof.Rows L2
/-- the items of xs, arranged by the keys ks -/
def ByKeys (lt : Value → Value → Bool) (ks xs out : List Value) : Prop := ∃ l : List (Value × Value), l.Perm (ks.zip xs) ∧ (l.Pairwise fun p q => lt q.1 p.1 = false) ∧ out = l.map (·.2)
/-- the machine compares these keys as lt says -/
def Ordered (pg : Program) (wd : World) (Ar : Around) (s : Shared) (ks : List Value) (lt : Value → Value → Bool) : Prop := SrtO.Swo lt ∧ (2 ≤ ks.length → ∃ κ, (∀ (Q : SortKind → Shared → Prop) (E : Value → Shared → Prop), Q κ s → wpAny (model pg wd) Ar (keyKind' ks.toArray) Q E s) ∧ SrtO.Cmp pg wd Ar s κ (fun p => p.1 ∈ ks) (SrtO.lt2 lt))
theorem Ordered.of {pg : Program} {wd : World} {Ar : Around} {s : Shared} {ks : List Value} {lt : Value → Value → Bool} {la : Addr} (O : SrtO.Swo lt) (h : 2 ≤ ks.length → SrtO.SortableO pg wd Ar s la ks lt) : Ordered pg wd Ar s ks lt := ⟨O, fun z => h z s.heap fun _ _ _ e => e⟩
/-- while the keys are asked: the list that is sorted is empty, the keys lie in a list of their own -/
structure Desk (h : Heap) (la ks : Addr) (e : Nat) (kA : Array Value) : Prop where
  ne : ks ≠ la
  own : ∃ ep, h.get? ks = some (seqObj "list" kA ep)
  out : h.get? la = some (seqObj "list" #[] e)
/-- what is wanted at the end: the arranged items stand at la, all else but the keys' list is as it was -/
abbrev Closed (s : Shared) (la ks : Addr) (R : List Value → Prop) (PP : PySem.Fin → Shared → Prop) : Prop := ∀ (h2 : Heap) (tk : Nat) (out : Array Value) (c : Nat), (∀ b o, b ≠ ks → b ≠ la → s.heap.get? b = some o → h2.get? b = some o) → h2.get? la = some (seqObj "list" out c) → R out.toList → PP (.done (.ret .none)) { s with heap := h2, toks := tk }
theorem line_ok {n : Nat} (h : n ≤ sizeLine) : n ≤ sizeLine + 1 := Nat.le_succ_of_le h
section
variable {pg : Program} {wd : World} {Ar : Around} {EE : Value → Shared → Prop} {s : Shared} {la ks : Addr} {xs : List Value} {kA : Array Value} {e : Nat} {PP : PySem.Fin → Shared → Prop} {lt : Value → Value → Bool}
theorem Desk.close {st : SortSt} (D : Desk s.heap la ks e kA) (hk : kA.size = xs.length) (hx : xs.length ≤ sizeLine) (hp : (arrOf st).toList.Perm (kA.zip xs.toArray).toList) (ho : (arrOf st).toList.Pairwise fun p q => lt q.1 p.1 = false) (hf : failedOf st = none)
    (h : Closed s la ks (ByKeys lt kA.toList xs) PP) : wpAny (model pg wd) Ar (ksk_tail la false e (.ref ks) st) PP EE s := by
  obtain ⟨ep, dk⟩ := D.own
  have z : (arrOf st).size = xs.length := by
    have l1 : (arrOf st).toList.length = (arrOf st).size := Array.length_toList
    have l2 : (kA.zip xs.toArray).toList.length = xs.length := by
      rw [Array.length_toList, Array.size_zip, hk]
      exact Nat.min_self _
    exact l1.symm.trans (hp.length_eq.trans l2)
  have c1 := Heap.SameBut.update s.heap ks (Obj.mapSeq fun _ => (#[] : Array Value))
  have d1 := (c1.2 la D.ne.symm).trans D.out
  have c2 := Heap.SameBut.update (s.heap.update ks (Obj.mapSeq fun _ => (#[] : Array Value))) la (Obj.mapSeq fun _ => (arrOf st).map (·.2))
  have d2 := get?_update_seq d1 fun _ => (arrOf st).map (·.2)
  have zk : kA.size ≤ sizeLine := by rw [hk]; exact hx
  have zo : ((arrOf st).map (·.2)).size ≤ sizeLine + 1 := by
    rw [Array.size_map, z]
    exact line_ok hx
  unfold ksk_tail
  dsimp only
  rw [hf]
  refine wpAny_bind (listUpdate_at dk rfl (wpAny_bind (wpAny_letGo (wpAny_bind (seqEpoch_at d1 rfl (wpAny_bind (listUpdate_at d1 rfl ?_ (Nat.zero_le _) (by rw [if_neg Bool.false_ne_true]; exact zo))))))) zk (Nat.zero_le _))
  rw [bne_self_eq_false, if_neg Bool.false_ne_true]
  refine wpAny_pure (h _ _ _ _ (fun b o n1 n2 q => (c2.2 b n2).trans ((c1.2 b n1).trans q)) d2 ⟨(arrOf st).toList, ?_, ho, Array.toList_map⟩)
  have q := hp
  rw [Array.toList_zip] at q
  exact q
theorem Desk.arrange (D : Desk s.heap la ks e kA) (hk : kA.size = xs.length) (hx : xs.length ≤ sizeLine) (O : Ordered pg wd Ar s kA.toList lt) (h : Closed s la ks (ByKeys lt kA.toList xs) PP) : wpAny (model pg wd) Ar (ksk_end la false xs.toArray e (.ref ks) kA) PP EE s := by
  unfold ksk_end
  dsimp only
  rw [if_neg Bool.false_ne_true]
  by_cases few : xs.toArray.size < 2
  · have l2 : (kA.zip xs.toArray).toList.length < 2 := by
      rw [Array.length_toList, Array.size_zip]
      exact Nat.lt_of_le_of_lt (Nat.min_le_right _ _) few
    have po : (kA.zip xs.toArray).toList.Pairwise fun p q => lt q.1 p.1 = false := by
      cases w : (kA.zip xs.toArray).toList with
      | nil => exact .nil
      | cons x l =>
        cases l with
        | nil => exact .cons (fun _ z => nomatch z) .nil
        | cons y l =>
          rw [w] at l2
          simp only [List.length_cons] at l2
          omega
    rw [if_pos few, if_pos few, if_neg Bool.false_ne_true]
    refine wpAny_bind (wpAny_pure (show wpAny _ _ (StateT.run (pure ()) _ >>= _) _ _ _ from ?_))
    rw [StateT.run_pure]
    exact wpAny_bind (wpAny_pure (D.close (st := SortSt.mk' general' (kA.zip xs.toArray) #[] 7 none) hk hx (List.Perm.refl _) po rfl h))
  · obtain ⟨κ, kind, cmp⟩ := O.2 (by rw [Array.length_toList, hk]; rw [List.size_toArray] at few; omega)
    rw [Array.toArray_toList] at kind
    rw [if_neg few, if_neg few, if_neg Bool.false_ne_true]
    refine wpAny_bind (kind _ _ (wpAny_bind (wpAny_mono (SrtO.wpS_sortO (lt := SrtO.lt2 lt) (st0 := SortSt.mk' κ (kA.zip xs.toArray) #[] 7 none) (Q := fun _ t => (arrOf t).toList.Perm (kA.zip xs.toArray).toList ∧ ((arrOf t).toList.Pairwise fun p q => lt q.1 p.1 = false) ∧ failedOf t = none)
      (SrtO.swo2 O.1) cmp rfl (fun p hm => ?_) rfl rfl fun t a1 a2 a3 => ⟨a2.perm, a1, a3⟩) ?_ fun _ _ z => z)))
    · have hm' : p ∈ (kA.zip xs.toArray).toList := hm
      rw [Array.toList_zip] at hm'
      exact (List.of_mem_zip (a := p.1) (b := p.2) hm').1
    · rintro ⟨⟨⟩, t⟩ s' ⟨rfl, q1, q2, q3⟩
      exact D.close hk hx q1 q2 q3 h
/-- one key: the function is called, its value is one more key, the two lists stand -/
abbrev Asks (pg : Program) (wd : World) (Ar : Around) (la ks : Addr) (fn : Value) (G : List Value → Shared → Prop) (xs : List Value) : Prop := ∀ (v : Value) (ts : List Value) (s : Shared), xs[ts.length]? = some v → (∃ o, s.heap.get? ks = some o) → (∃ o, s.heap.get? la = some o) → G ts s →
  wpAny (model pg wd) Ar (call fn [v]) (fun r s2 => G (ts ++ [r]) s2 ∧ ∀ b o, b = ks ∨ b = la → s.heap.get? b = some o → s2.heap.get? b = some o) (fun _ _ => False) s
abbrev Ends (pg : Program) (wd : World) (Ar : Around) (la ks : Addr) (G : List Value → Shared → Prop) (xs : List Value) (PP : PySem.Fin → Shared → Prop) : Prop := ∀ (ts : List Value) (s : Shared), ts.length = xs.length → G ts s → ∃ lt : Value → Value → Bool, Ordered pg wd Ar s ts lt ∧ Closed s la ks (ByKeys lt ts xs) PP
theorem Desk.ask {fn : Value} (G : List Value → Shared → Prop) (g0 : G [] s) (D : Desk s.heap la ks e #[]) (hx : xs.length ≤ sizeLine)
    (moved : ∀ (ts : List Value) (s : Shared) (h2 : Heap) (tk : Nat), G ts s → (∀ b o, b ≠ ks → s.heap.get? b = some o → h2.get? b = some o) → G ts { s with heap := h2, toks := tk }) (asks : Asks pg wd Ar la ks fn G xs) (ends : Ends pg wd Ar la ks G xs PP) :
    wpAny (model pg wd) Ar (ksk_rest la fn false xs.toArray e (.ref ks)) PP EE s := by
  have key : ∀ s0 : Shared, G [] s0 → Desk s0.heap la ks e #[] → wpAny (model pg wd) Ar (ksk_rest la fn false xs.toArray e (.ref ks)) PP EE s0 := by
    intro s0 g1 D1
    unfold ksk_rest
    rw [List.forIn_toArray]
    refine wpAny_bind (wpAny_rule (wpAny_bind (ksk_fold (fun i s => ∃ (kA : Array Value), G kA.toList s ∧ Desk s.heap la ks e kA ∧ kA.size = i) xs 0 s0 ⟨#[], g1, D1, rfl⟩ (fun j x s1 hj ⟨kA, g, D2, hn⟩ => ?_) fun s1 ⟨kA, g, D2, hn⟩ => ?_)))
    · rw [Nat.zero_add] at hn ⊢
      subst hn
      have jl : kA.size < xs.length := (List.getElem?_eq_some_iff.mp hj).1
      refine wpAny_bind (wpAny_attempt (wpAny_mono (asks x kA.toList s1 (by rw [Array.length_toList]; exact hj) (let ⟨_, z⟩ := D2.own; ⟨_, z⟩) ⟨_, D2.out⟩ g) (fun v s2 ⟨g2, kp⟩ => ?_) fun _ _ z => z.elim))
      obtain ⟨ep, o1⟩ := D2.own
      have w1 := kp ks _ (.inl rfl) o1
      have w2 := kp la _ (.inr rfl) D2.out
      have cu := Heap.SameBut.update s2.heap ks (Obj.mapSeq (·.push v))
      have zz : kA.size ≤ sizeLine := Nat.le_trans (Nat.le_of_lt jl) hx
      refine wpAny_bind (listUpdate_at w1 rfl (wpAny_pure ⟨rfl, kA.push v, ?_, ⟨D2.ne, ⟨_, get?_update_seq w1 (·.push v)⟩, (cu.2 la D2.ne.symm).trans w2⟩, Array.size_push ..⟩) zz (by rw [Array.size_push]; omega))
      have gm := moved _ s2 (s2.heap.update ks (Obj.mapSeq (·.push v))) s2.toks g2 fun b o hb q => (cu.2 b hb).trans q
      rw [Array.toList_push]
      exact gm
    · rw [Nat.zero_add] at hn
      obtain ⟨ep, o1⟩ := D2.own
      obtain ⟨lt, O, fin⟩ := ends kA.toList s1 (by rw [Array.length_toList]; exact hn) g
      exact wpAny_bind (listItems_at o1 rfl (D2.arrange hn hx O fin))
  exact key s g0 D
/-- sorted(l, key = fn). G0: what stands at first, whatever becomes of objects from the heap's end on; G: what stands while the keys are asked -/
theorem sorted_by {fn : Value} {kw : List (Str × Value)} {lx : Addr} {QQ : Value → Shared → Prop} (G0 : Shared → Prop) (G : Addr → Addr → List Value → Shared → Prop) (g0 : G0 s) (hl : s.heap.IsList lx xs.toArray) (hx : xs.length ≤ sizeLine)
    (ha1 : argsOk "sorted" ⟨[.ref lx], kw⟩) (ha2 : ∀ x, argsOk "list.sort" ⟨[.ref x], kw⟩) (ht : ∀ x, Builtin.«list.sort» ⟨[.ref x], kw⟩ = ksk_tree x fn false)
    (moved0 : ∀ (s1 : Shared) (h2 : Heap) (b0 : Addr), s.heap.objs.size ≤ b0 → G0 s1 → (∀ b o, b ≠ b0 → s1.heap.get? b = some o → h2.get? b = some o) → G0 { s1 with heap := h2 })
    (enter : ∀ la ks s1, s.heap.objs.size ≤ la → s.heap.objs.size ≤ ks → G0 s1 → G la ks [] s1)
    (moved : ∀ la ks, s.heap.objs.size ≤ la → s.heap.objs.size ≤ ks → ∀ (ts : List Value) (s1 : Shared) (h2 : Heap) (tk : Nat), G la ks ts s1 → (∀ b o, b ≠ ks → b ≠ la → s1.heap.get? b = some o → h2.get? b = some o) → G la ks ts { s1 with heap := h2, toks := tk })
    (asks : ∀ la ks, s.heap.objs.size ≤ la → s.heap.objs.size ≤ ks → Asks pg wd Ar.in1.in1 la ks fn (G la ks) xs)
    (fin : ∀ la ks ts s1, ts.length = xs.length → G la ks ts s1 → ∃ lt : Value → Value → Bool, Ordered pg wd Ar.in1.in1 s1 ts lt ∧ ∀ s2 out c, s.heap.objs.size ≤ la → G la ks ts s2 → s2.heap.get? la = some (seqObj "list" out c) → ByKeys lt ts xs out.toList → QQ (.ref la) s2) : wpAny (model pg wd) Ar (call (.builtin "sorted") [.ref lx] kw) QQ EE s := by
  -- the copy that is sorted is laid behind a first one
  have lay : ∀ (h1 : Heap) (la : Addr), h1.get? la = some (seqObj "list" xs.toArray 0) → s.heap.objs.size ≤ la → G0 { s with heap := h1 } → wpAny (model pg wd) Ar.in1.in1 (ksk_tree la fn false) (fun r s2 => r = .done (.ret .none) ∧ QQ (.ref la) s2) EE { s with heap := h1 } := by
    intro h1 la o1 lo g1
    have cu := Heap.SameBut.update h1 la (Obj.mapSeq fun _ => (#[] : Array Value))
    obtain ⟨e1, o2⟩ : ∃ e1, (h1.update la (Obj.mapSeq fun _ => (#[] : Array Value))).get? la = some (seqObj "list" #[] e1) := ⟨_, get?_update_seq o1 fun _ => #[]⟩
    have lt1 : la < h1.objs.size := Heap.lt_size o1
    have zs : ((h1.update la (Obj.mapSeq fun _ => (#[] : Array Value))).push (seqObj "tuple" xs.toArray 0)).objs.size = h1.objs.size + 1 := by rw [size_push', Heap.size_update]
    have up : s.heap.objs.size ≤ ((h1.update la (Obj.mapSeq fun _ => (#[] : Array Value))).push (seqObj "tuple" xs.toArray 0)).objs.size := by
      rw [zs]
      exact Nat.le_trans lo (Nat.le_of_lt (Nat.lt_succ_of_lt lt1))
    have g2 := moved0 { s with heap := h1 } (((h1.update la (Obj.mapSeq fun _ => (#[] : Array Value))).push (seqObj "tuple" xs.toArray 0)).push (seqObj "list" #[] 0)) la lo g1 fun b o hb q => Heap.get?_push_of_some _ (Heap.get?_push_of_some _ ((cu.2 b hb).trans q))
    have D : Desk (((h1.update la (Obj.mapSeq fun _ => (#[] : Array Value))).push (seqObj "tuple" xs.toArray 0)).push (seqObj "list" #[] 0)) la ((h1.update la (Obj.mapSeq fun _ => (#[] : Array Value))).push (seqObj "tuple" xs.toArray 0)).objs.size e1 #[] :=
      ⟨by rw [zs]; exact Nat.ne_of_gt (Nat.lt_succ_of_lt lt1), ⟨0, Heap.get?_push_size _ rfl⟩, Heap.get?_push_of_some _ (Heap.get?_push_of_some _ o2)⟩
    unfold ksk_tree
    refine wpAny_bind (listItems_at o1 rfl (wpAny_bind (listUpdate_at o1 rfl (wpAny_bind (seqEpoch_at o2 rfl (wpAny_bind (wpAny_newTuple (wpAny_bind (wpAny_newList (wpAny_holding ?_) (Nat.zero_le _))) hx)))) (by rw [List.size_toArray]; exact hx) (Nat.zero_le _))))
    refine Desk.ask (G la _) (enter la _ _ lo up g2) D hx (fun ts s1 h2 tk g kp => moved la _ lo up ts s1 h2 tk g fun b o hb _ q => kp b o hb q) (asks la _ lo up) fun ts s1 hn g => ?_
    obtain ⟨lt, O, f⟩ := fin la _ ts s1 hn g
    exact ⟨lt, O, fun h2 tk out c kp ho hb => ⟨rfl, f _ out c lo (moved la _ lo up ts s1 h2 tk g kp) ho hb⟩⟩
  have z1 : ((s.heap.push (seqObj "list" #[] 0)).update s.heap.objs.size (Obj.mapSeq (· ++ xs.toArray))).objs.size = s.heap.objs.size + 1 := by rw [Heap.size_update, size_push']
  have c1 := Heap.SameBut.update (s.heap.push (seqObj "list" #[] 0)) s.heap.objs.size (Obj.mapSeq (· ++ xs.toArray))
  have g1 := moved0 s (((s.heap.push (seqObj "list" #[] 0)).update s.heap.objs.size (Obj.mapSeq (· ++ xs.toArray))).push (seqObj "list" xs.toArray 0)) s.heap.objs.size (Nat.le_refl _) g0 fun b o hb q => Heap.get?_push_of_some _ ((c1.2 b hb).trans (Heap.get?_push_of_some _ q))
  have o1 : (((s.heap.push (seqObj "list" #[] 0)).update s.heap.objs.size (Obj.mapSeq (· ++ xs.toArray))).push (seqObj "list" xs.toArray 0)).get? ((s.heap.push (seqObj "list" #[] 0)).update s.heap.objs.size (Obj.mapSeq (· ++ xs.toArray))).objs.size = some (seqObj "list" xs.toArray 0) := Heap.get?_push_size _ rfl
  have run := lay _ _ o1 (by rw [z1]; exact Nat.le_succ _) g1
  refine call_function_entry_kw kind_sorted plain_sorted entry_sorted ha1 (show wpAny _ _ (Builtin.«sorted» ⟨[.ref lx], kw⟩) _ _ _ from ?_)
  unfold Builtin.«sorted»
  refine wpAny_bind (m := checkCount "sorted" 1 1 _) (wpAny_pure (wpAny_bind (collect_list hl (wpAny_bind (wpAny_newList (wpAny_bind (wpAny_holding (wpAny_call_entry_kw slot_list_sort ⟨_, o1, rfl⟩ entry_list_sort ?_ (ha2 _)))) hx)) hx)))
  show wpAny (model pg wd) Ar.in1.in1 (Builtin.«list.sort» ⟨[.ref _], kw⟩) _ _ _
  rw [ht]
  refine wpAny_mono run (fun r s2 ⟨er, q⟩ => ?_) fun _ _ z => z
  subst er
  exact ⟨_, rfl, wpAny_pure ⟨_, rfl, q⟩⟩
end
end Tr
/-! # sorted(e, key = lambda x: body): the body's value of each item stands for a key -/
namespace Tr
open PySem PySem.Spec PyProof.Rows L2
section
variable {X : Cx} {pins : List (Addr × Obj)} {σ : L2.St} {H : Hp}
/-- an object that is new since the def was entered is tracked from now on -/
theorem inv_adopt {s : Shared} {D : Addr} {o : HO} (I : Inv X pins σ H s) (f : FpOk X pins H D) (hx : D ∉ X.ex) (new : ObjOk X.prog X.w (upd H D o) s.heap D o) : Inv X pins σ (upd H D o) s := by
  obtain ⟨hn, hl, hfs, hge, hc, hp⟩ := f
  have ge : X.s_0.heap.objs.size ≤ D := by
    rcases hge with z | z
    · exact absurd z hx
    · exact z
  have ne0 : ∀ b u, X.s_0.heap.get? b = some u → b ≠ D := fun b u e z => by
    rw [z] at e
    exact Nat.lt_irrefl _ (Nat.lt_of_lt_of_le (Heap.lt_size e) ge)
  have at_ : ∀ b u, H b = some u → upd H D o b = some u := fun b u e => by
    rw [upd_ne (ne_of_none e hn)]
    exact e
  have no_ : ∀ b, H b = none → b ≠ D → upd H D o b = none := fun b e z => by
    rw [upd_ne z]
    exact e
  refine ⟨I.ok, I.os, I.bare, ⟨I.base.keep, I.base.slot, fun b u e n z => no_ b (I.base.free b u e n z) (ne0 b u e), I.base.there, fun b xs e => at_ _ _ (I.base.tups b xs e), fun b q u e => at_ _ _ (I.base.frzs b q u e), fun b ps e => ?_⟩, I.loc, I.cell, no_ _ I.free (Ne.symm hl), fun x c e => no_ _ (I.freeC x c e) (hc x c e), fun p q => ?_, fun b u e => ?_, I.len⟩
  · obtain ⟨more, z⟩ := I.base.tbls b ps e
    exact ⟨more, at_ _ _ z⟩
  · obtain ⟨a1, a2, a3, a4, a5⟩ := I.pin p q
    exact ⟨a1, no_ _ a2 (hp p q), a3, a4, a5⟩
  · by_cases hb : b = D
    · subst hb
      rw [upd_same] at e
      cases e
      exact new
    · rw [upd_ne hb] at e
      exact (I.hok b u e).stay (fun _ _ _ q => q) (fun c q => at_ _ _ q) fun c xs q => at_ _ _ q
end
/-- a parameter is a local, or a cell that is made -/
theorem param_kind {scope : Scope} {N ps : List Str} (S : FnScope N ps scope) {us : List Value} {n : Nat} {y : Str × Value} (hy : y ∈ ps.zip us) : scope.names.lookup y.1 = some .local ∨ (scope.names.lookup y.1 = some .cell ∧ ((cellsFrom n scope.names []).lookup y.1).isSome = true) :=
  (S.par y.1 (List.of_mem_zip (a := y.1) (b := y.2) hy).1).imp id fun q => ⟨q, PySem.W.cellsFrom_some _ _ _ (.inl q)⟩
section
variable {P : Program} {w : World} {K : PySem.W.Frag} {mg : Str → Option Value} {base : Heap}
/-- a lambda is called -/
theorem lam_run {k : Nat} {f c2 : Addr} {qual : Str} {params : Arguments} {body : Expr} {scope : Scope} {pm ctv : Value} {N ps : List Str} {A : Around} {outer : List Env} {s : Shared} {H : Hp} {us : List Value} {vs : List V} {Q : VK} {E : XK} {te : TE}
    (S : FnScope N ps scope) (of : s.heap.get? f = some (PySem.W.kla_obj "<lambda>" qual params body scope [] pm c2 ctv)) (hcr : s.heap.CodeRec (.ref c2) qual)
    (hb : bindArgs (PySem.W.kla_fn "<lambda>" qual params body scope [] pm (.ref c2) ctv) ⟨us, []⟩ = pure (ps.zip us)) (r : Vals vs us) (hl : vs.length = ps.length) (hr : Room (k + 1) A) (e0 : Env0 P w K mg base A outer s H)
    (hbody : Room k (A.deeper (envOfC qual scope s.heap.objs.size f (.ref c2))) → PE (cxOf CX0 P w K mg base N qual scope f (.ref c2) A outer s H E).nox body te) (h : te (L2.start N vs) H Q) :
    codeAny (model P w) A (.call (.ref f) ⟨us, []⟩) (CR CX0 outer P w H s Q E) s := by
  refine PySem.W.kla_callFunE hr.depth of rfl S.co S.gen rfl hcr (by
    rw [hb]
    refine wpAny_pure (wpAny_newFunctionEnv_cells S.kind (fun y hy => param_kind S hy) fun env he sx x => ?_)
    subst he
    exact ⟨(e0.mod.nolimit.keeps fun b o q => (e0.bs b o q).1).keeps x.toInCall.keep, PySem.W.kla_codeExpr (wpAny_mono ((hbody (hr.deeper _)).nox.run [] sx _ H Q (inv_start (CX := CX0) (E := E) S hr.hd e0 hl r x) h) (fun v sz ⟨v2, H2, J, rv, q⟩ => ⟨v2, H2, J.os, J.bare, J.base, J.hok, rv, q⟩) fun _ _ q => q)⟩)
end
/-! ### keys -/
def pairAt (H : Hp) (t : Addr) : Int × Int := match H t with
  | some (.tup [.int i, .int j]) => (i, j)
  | _ => (0, 0)
theorem pairAt_of {H : Hp} {t : Addr} {i j : Int} (h : H t = some (.tup [.int i, .int j])) : pairAt H t = (i, j) := by
  unfold pairAt
  rw [h]
def adr : Value → Addr
  | .ref t => t
  | _ => 0
/-- a pair of whole numbers of the heap is one of the machine -/
theorem pair_is {X : Cx} {pins : List (Addr × Obj)} {σ : L2.St} {H : Hp} {s : Shared} {t : Addr} {i j : Int} (I : Inv X pins σ H s) (h : H t = some (.tup [.int i, .int j])) : Srt.IsPair s.heap (.ref t) i j := by
  obtain ⟨_, its, rv, o, a1, a2, n, a3⟩ := I.hok _ _ h
  obtain ⟨u1, u2, e, ⟨t1, e1⟩, ⟨t2, e2⟩⟩ := vals2 rv
  subst e e1 e2
  exact ⟨t, o, t1, t2, n, rfl, a1, a2, a3⟩
/-- a kind of keys: which value stands for which key in a heap, and their order -/
structure KeyOf (κ : Type) where
  R : Hp → V → κ → Prop
  lt : κ → κ → Bool
  mono : ∀ {H H' : Hp} {v : V} {k : κ}, Same H H' → R H v k → R H' v k
  sorts : ∀ {X : Cx} {pins : List (Addr × Obj)} {σ : L2.St} {H : Hp} {s : Shared} {A : Around}, Inv X pins σ H s → ∀ {rs : List V} {us : List Value}, Vals rs us → (∀ r ∈ rs, ∃ k, R H r k) →
    ∃ kf : Value → κ, (∀ (j : Nat) (r : V) (u : Value) (k : κ), rs[j]? = some r → us[j]? = some u → R H r k → kf u = k) ∧ Ordered X.prog X.w A s us (fun v u => lt (kf v) (kf u))
theorem vals_at : ∀ {rs : List V} {us : List Value}, Vals rs us → ∀ {j : Nat} {r : V} {u : Value}, rs[j]? = some r → us[j]? = some u → RelV r u
  | _, _, .nil, j, r, u, h, _ => by
    rw [List.getElem?_nil] at h
    cases h
  | _, _, .cons h1 h2, 0, r, u, e1, e2 => by
    cases e1
    cases e2
    exact h1
  | _, _, .cons h1 h2, j + 1, r, u, e1, e2 => vals_at h2 (j := j) e1 e2
def intKey : KeyOf Int where
  R := fun _ v k => v = .int k
  lt := fun a b => decide (a < b)
  mono := fun _ h => h
  sorts := fun {X pins σ H s A} I {rs us} hv hr => by
    obtain ⟨ns, rfl⟩ : ∃ ns : List Int, rs = ns.map V.int := by
      clear hv
      induction rs with
      | nil => exact ⟨[], rfl⟩
      | cons r rs ih =>
        obtain ⟨k, rfl⟩ := hr r List.mem_cons_self
        obtain ⟨ns, e⟩ := ih fun z hz => hr z (List.mem_cons_of_mem _ hz)
        exact ⟨k :: ns, by rw [e]; rfl⟩
    refine ⟨SrtO.iv, fun j r u k h1 h2 h3 => ?_, Ordered.of (la := 0) SrtO.swo_int fun z => SrtO.ints_sortable hv.ints z⟩
    obtain ⟨t, e⟩ := (show RelV (.int k) u from h3 ▸ vals_at hv h1 h2)
    rw [e]
    rfl
def pairKey : KeyOf (Int × Int) where
  R := fun H v k => ∃ t, v = .ref t ∧ H t = some (.tup [.int k.1, .int k.2])
  lt := SrtO.lexB
  mono := fun s ⟨t, e, h⟩ => ⟨t, e, s _ _ h⟩
  sorts := fun {X pins σ H s A} I {rs us} hv hr => by
    have at_ : ∀ (j : Nat) (r : V) (u : Value) (k : Int × Int), rs[j]? = some r → us[j]? = some u → (∃ t, r = .ref t ∧ H t = some (.tup [.int k.1, .int k.2])) → u = .ref (adr u) ∧ H (adr u) = some (.tup [.int k.1, .int k.2]) := fun j r u k h1 h2 ⟨t, e, h⟩ => by
      have q : RelV (.ref t) u := e ▸ vals_at hv h1 h2
      obtain rfl : u = .ref t := q
      exact ⟨rfl, h⟩
    refine ⟨fun u => pairAt H (adr u), fun j r u k h1 h2 h3 => pairAt_of (at_ j r u k h1 h2 h3).2, Ordered.of (la := s.heap.objs.size) (SrtO.swo_lex fun u => pairAt H (adr u)) fun z => SrtO.pairs_sortableO (k := fun u => pairAt H (adr u)) (by omega) (fun u hu => ?_) fun o ho => absurd (Heap.lt_size ho) (Nat.lt_irrefl _)⟩
    obtain ⟨j, hj⟩ := List.getElem?_of_mem hu
    have jl : j < rs.length := by
      rw [hv.length]
      exact (List.getElem?_eq_some_iff.mp hj).1
    obtain ⟨k, hk⟩ := hr _ (List.getElem_mem jl)
    obtain ⟨e, h⟩ := at_ j _ u k (List.getElem?_eq_getElem jl) hj hk
    rw [pairAt_of h, e]
    exact pair_is I h
/-! ### the rule -/
/-- what sorted(e, key=lambda x: body) asks: the tables of code objects, the list, a key of each item; then for each arrangement by the keys -/
def tSortBy {κ : Type} (O : KeyOf κ) (K : PySem.W.Frag) (T : List (Addr × Str)) (te : TA) (tb : TE) (Nl : List Str) : TE := fun σ H Q => te σ H fun vs H0 => LamX.Tabs T H0 ∧ ∀ H1, LamX.ExtN H0 H1 → LamX.Tabs T H1 →
  ∃ (a : Addr) (as : List Addr) (kf : Addr → κ), vs = [.ref a] ∧ SqL K H1 a (as.map V.ref) ∧ (∀ y ∈ as, ∀ H2, Same H1 H2 → tb (L2.start Nl [.ref y]) H2 fun r H3 => Same H2 H3 ∧ O.R H3 r (kf y)) ∧
    ∀ (zs : List Addr) (p : Addr) (H' : Hp), Same H1 H' → zs.Perm as → (zs.Pairwise fun x y => O.lt (kf y) (kf x) = false) → H' p = none → Q (.ref p) (upd H' p (.lst (zs.map V.ref)))
theorem refs_of : ∀ {as : List Addr} {us : List Value}, Vals (as.map V.ref) us → us = as.map Value.ref
  | [], us, h => by
    cases h
    rfl
  | a :: as, us, h => by
    cases h with
    | cons h1 h2 =>
      obtain rfl : _ = Value.ref a := h1
      rw [refs_of h2]
      rfl
theorem refs_vals : ∀ as : List Addr, Vals (as.map V.ref) (as.map Value.ref)
  | [] => .nil
  | a :: as => .cons rfl (refs_vals as)
theorem kq_lift {α β : Type} (f : α → β) : ∀ {k : List β} {l : List α}, (l.map f).Perm k → ∃ l' : List α, l'.Perm l ∧ l'.map f = k
  | [], l, h => by
    have : l = [] := by
      have := h.length_eq
      simpa using this
    exact ⟨[], by rw [this], rfl⟩
  | b :: k, l, h => by
    have hb : b ∈ l.map f := h.mem_iff.mpr List.mem_cons_self
    obtain ⟨a, ha, rfl⟩ := List.mem_map.mp hb
    obtain ⟨l1, l2, rfl⟩ := List.append_of_mem ha
    have p : ((l1 ++ l2).map f).Perm k := by
      have q : ((l1 ++ a :: l2).map f).Perm (f a :: (l1 ++ l2).map f) := by
        rw [List.map_append, List.map_append, List.map_cons]
        exact List.perm_middle
      exact (q.symm.trans h).cons_inv
    obtain ⟨l', h1, h2⟩ := kq_lift f p
    exact ⟨a :: l', (h1.cons a).trans List.perm_middle.symm, by rw [List.map_cons, h2]⟩
/-- the arrangement, told of the items themselves -/
theorem by_items {κ : Type} {lt : κ → κ → Bool} {kv : Value → κ} {kf : Addr → κ} {ts out : List Value} {as : List Addr} (hl : ts.length = as.length) (hk : ∀ (j : Nat) (t : Value) (y : Addr), ts[j]? = some t → as[j]? = some y → kv t = kf y) (h : ByKeys (fun v u => lt (kv v) (kv u)) ts (as.map Value.ref) out) :
    ∃ zs : List Addr, out = zs.map Value.ref ∧ zs.Perm as ∧ zs.Pairwise fun x y => lt (kf y) (kf x) = false := by
  obtain ⟨l, h1, h2, h3⟩ := h
  have ez : ts.zip (as.map Value.ref) = (ts.zip as).map fun p => (p.1, Value.ref p.2) := by
    rw [List.zip_map_right]
    rfl
  rw [ez] at h1
  obtain ⟨ps, q1, q2⟩ := kq_lift (fun p : Value × Addr => (p.1, Value.ref p.2)) h1.symm
  subst q2
  have hkp : ∀ p ∈ ps, kv p.1 = kf p.2 := fun p hp => by
    obtain ⟨j, hj⟩ := List.getElem?_of_mem (q1.mem_iff.mp hp)
    rw [List.getElem?_zip_eq_some] at hj
    exact hk j p.1 p.2 hj.1 hj.2
  refine ⟨ps.map (·.2), ?_, ?_, ?_⟩
  · rw [h3, List.map_map, List.map_map]
    rfl
  · have := q1.map (·.2)
    rw [List.map_snd_zip (by omega)] at this
    exact this
  · rw [List.pairwise_map] at h2 ⊢
    refine h2.imp_of_mem fun {a b} ha hb h => ?_
    rw [← hkp a ha, ← hkp b hb]
    exact h
theorem vals_snoc {v : V} {u : Value} (h : RelV v u) : ∀ {rs : List V} {us : List Value}, Vals rs us → Vals (rs ++ [v]) (us ++ [u])
  | _, _, .nil => .cons h .nil
  | _, _, .cons h1 h2 => .cons h1 (vals_snoc h h2)
section
variable {X : Cx}
theorem pe_sortBy {κ : Type} (O : KeyOf κ) {T : List (Addr × Str)} {c Pt : Addr} {params : Arguments} {body e : Expr} {scope : Scope} {lpos p pos kpos : Pos} {te : TA} {tb : TE} {x : Str} {Nl : List Str} {k : Nat}
    (he : PA X [e] te) (hcalm : X.calm = true) (hg : Gl X "sorted") (hm : X.mg "sorted" = none) (TB : LamX.TabB X.base X.mg c Pt) (hcode : X.env.code = .ref c) (hmT : (Pt, X.env.qual ++ "<lambda>") ∈ T) (hu : ∀ p ∈ T, p.1 = Pt → p.2 = X.env.qual ++ "<lambda>") (hex : X.ex = [])
    (hdef : defaultsOf params X.env = ([], [])) (S : FnScope Nl [x] scope) (hclo : cloFrom X.env.cells scope.names [] = []) (hbind : ∀ (q : Str) (pm cv ctv u : Value), bindArgs (PySem.W.kla_fn "<lambda>" q params body scope [] pm cv ctv) ⟨[u], []⟩ = pure [(x, u)]) (hr : Room (k + 3) X.A)
    (hbody : ∀ (A : Around) (outer : List Env) (s : Shared) (H : Hp) (E : XK) (f c2 : Addr), Room k (A.deeper (envOfC (X.env.qual ++ "<lambda>") scope s.heap.objs.size f (.ref c2))) → PE (cxOf CX0 X.prog X.w X.K X.mg X.base Nl (X.env.qual ++ "<lambda>") scope f (.ref c2) A outer s H E).nox body tb)
    (hsa : backTo pos (starEach [e] X.env) = (false, eval e X.env) :: backTo pos (starEach [] X.env) := by rfl) (hsb : (backTo pos (starEach [e] X.env)).any (·.1) = false := by rfl)
    (hkw : backToKw pos (keywordEach [⟨some "key", .Lambda params body scope lpos, kpos⟩] X.env) = [(some ("key" : Str), do let v ← eval (.Lambda params body scope lpos) X.env; standAt pos; pure v)] := by rfl) :
    PE X (.Call (.Name "sorted" p) [e] [⟨some "key", .Lambda params body scope lpos, kpos⟩] pos) (tSortBy O X.K T te tb Nl) := by
  constructor
  intro pins s σ H Q I h
  refine wpAny_Call_Name_kw (ld_blt I hg hm (show bootBuiltins "sorted" = some (.builtin "sorted") by decide +kernel) ?_)
  refine PyProof.Rows.callWith_kw (kws := [⟨some "key", .Lambda params body scope lpos, kpos⟩]) (thn (he.run pos pins s σ H _ I h) fun us s1 ⟨vs, H1, I1, r1, q1⟩ => ?_) hsa hsb (by rw [hkw]; rfl) (by rw [hkw]; rfl)
  rw [hkw]
  refine wpAny_evalAll_cons (wpAny_bind (LamX.lam_make2 I1 TB hcode hmT hu q1.1 hdef (fun y hy z => absurd z (S.nofree y hy)) fun f c2 pm ctv H2 s2 I2 ext tabs of nf nfr hc => wpAny_bind (wpAny_standAt (wpAny_pure (wpAny_evalAll_nil ?_)))))
  obtain ⟨a, as, kf, rfl, hs, hkey, fin⟩ := q1.2 H2 ext tabs
  obtain rfl := Vals.ref1 r1
  rw [hclo] at of
  obtain ⟨its, rv, hl, hz⟩ := I2.list hs
  obtain rfl := refs_of rv
  rw [List.length_map] at hz
  show wpAny (model X.prog X.w) X.A (call (.builtin "sorted") [.ref a] [(Str.ofString "key", .ref f)]) _ _ _
  have hf2 : f < s2.heap.objs.size := Heap.lt_size of
  have fr : ∀ b, s2.heap.objs.size ≤ b → b ≠ f := fun b hb z => Nat.lt_irrefl _ (Nat.lt_of_lt_of_le hf2 (z ▸ hb))
  refine sorted_by (xs := as.map Value.ref) (fn := .ref f) (fun s3 => Inv X pins σ H2 s3 ∧ s3.heap.get? f = some (PySem.W.kla_obj "<lambda>" (X.env.qual ++ "<lambda>") params body scope [] pm c2 ctv))
    (fun la ks ts s3 => ∃ (H' : Hp) (rs : List V), Same H2 H' ∧ Inv X pins σ H' s3 ∧ s3.heap.get? f = some (PySem.W.kla_obj "<lambda>" (X.env.qual ++ "<lambda>") params body scope [] pm c2 ctv) ∧ H' f = none ∧ H' la = none ∧ H' ks = none ∧ Vals rs ts ∧ rs.length ≤ as.length ∧ ∀ (j : Nat) (r : V) (y : Addr), rs[j]? = some r → as[j]? = some y → O.R H' r (kf y)) ⟨I2, of⟩ hl.isList (by rw [List.length_map]; exact hz)
    (PyProof.Rows.ksk_s1 _ _) (fun _ => PyProof.Rows.ksk_l1 _ _) (fun x => PyProof.Rows.ksk_t1 f x) ?first ?enter ?move ?ask ?fin
  case first =>
    intro s3 h2 b0 n0 gs kp
    exact ⟨gs.1.turnedL (t' := s3.toks) (ch := [b0]) (fun b o hb q => kp b o (fun z => hb (z ▸ List.mem_cons_self)) q) (fun b hb => by
      rw [List.mem_singleton.mp hb]
      exact I2.fpOk n0 (I2.hok.fresh n0)), kp f _ (fr b0 n0).symm gs.2⟩
  case enter =>
    intro la ks s3 n0 n1 gs
    exact ⟨H2, [], Same.refl _, gs.1, gs.2, nf, I2.hok.fresh n0, I2.hok.fresh n1, .nil, Nat.zero_le _, fun j r y q => by simp at q⟩
  case move =>
    intro la ks n0 n1 ts s3 h2 tk gs kp
    obtain ⟨H', rs, sm, I3, of3, f3, la3, ks3, hv, hn, hts⟩ := gs
    refine ⟨H', rs, sm, I3.turnedL (ch := [ks, la]) (fun b o hb q => kp b o (fun z => hb (z ▸ List.mem_cons_self)) (fun z => hb (z ▸ List.mem_cons_of_mem _ List.mem_cons_self)) q) (fun b hb => ?_), kp f _ (fr ks n1).symm (fr la n0).symm of3, f3, la3, ks3, hv, hn, hts⟩
    have hb' : b = ks ∨ b = la := by simpa using hb
    rcases hb' with z | z
    · rw [z]
      exact I2.fpOk n1 ks3
    · rw [z]
      exact I2.fpOk n0 la3
  case ask =>
    intro la ks n0 n1 v ts s3 hv ok1 ok2 gs
    obtain ⟨H', rs, sm, I3, of3, f3, la3, ks3, hvl, hn, hts⟩ := gs
    rw [List.getElem?_map] at hv
    obtain ⟨y, q, rfl⟩ : ∃ y, as[ts.length]? = some y ∧ v = .ref y := by
      cases z : as[ts.length]? with
      | none =>
        rw [z] at hv
        exact nomatch hv
      | some y =>
        rw [z] at hv
        exact ⟨y, rfl, (Option.some.inj hv).symm⟩
    obtain ⟨⟨oc, fv, ft, hoc, hdc, hvc⟩, _, _⟩ := I3.hok c2 _ (sm _ _ hc)
    have rc := lam_run (E := E0) (us := [.ref y]) (vs := [.ref y]) S of3 ⟨c2, oc, fv, ft, rfl, hoc, hdc, hvc⟩ (hbind _ _ _ _ _) (.cons rfl .nil) rfl (k := k) hr.in1.in1 I3.env0.in1.in1 (hbody _ _ _ _ _ _ _) (hkey y (List.mem_of_getElem? q) H' sm)
    refine wpAny_call (codeAny_mono rc fun r s4 hq => ?_)
    match r, hq with
    | .ok (.ret u), hq =>
      obtain ⟨v0, H4, c1, c3, un, c4, c5, s46, hR⟩ := (show CE X.stack X.prog X.w H' s3 (fun r H3 => Same H' H3 ∧ O.R H3 r (kf y)) u s4 from hq)
      have stay : ∀ b o, s3.heap.get? b = some o → H' b = none → H4 b = none := fun b o q z => un.free b o q z (by simp)
      have nst : ∀ b, s2.heap.objs.size ≤ b → b ∉ frs X.stack := fun b hb z => (List.mem_cons.mp (I2.stkSub _ z)).elim (fun q => absurd I2.lt (by rw [← q]; exact Nat.not_lt.mpr hb)) (I2.nofs hb)
      obtain ⟨_, H5, I4, _, e5⟩ := I3.after (Q := fun _ H5 => H5 = H4) ⟨_, H4, c1, c3, un, c4, c5, rfl⟩
      subst e5
      obtain ⟨o1, ho1⟩ := ok1
      obtain ⟨o2, ho2⟩ := ok2
      have ln : rs.length = ts.length := hvl.length
      refine ⟨⟨H5, rs ++ [v0], sm.trans s46, I4, un.keep f _ of3 f3 nfr (by simp), stay f _ of3 f3, stay la _ ho2 la3, stay ks _ ho1 ks3, vals_snoc c5 hvl, ?_, fun j r y2 q1 q2 => ?_⟩, fun b o hb q => ?_⟩
      · have := (List.getElem?_eq_some_iff.mp q).1
        rw [List.length_append, ln]
        exact this
      · by_cases hj : j < rs.length
        · rw [List.getElem?_append_left hj] at q1
          exact O.mono s46 (hts j r y2 q1 q2)
        · rw [List.getElem?_append_right (Nat.le_of_not_lt hj)] at q1
          have hj0 : j - rs.length = 0 := by
            have := (List.getElem?_eq_some_iff.mp q1).1
            rw [List.length_singleton] at this
            omega
          have hj1 : j = ts.length := by omega
          rw [hj0] at q1
          rw [hj1, q] at q2
          cases q1
          cases q2
          exact hR
      · rcases hb with z | z
        · exact un.keep b o q (z ▸ ks3) (z ▸ nst _ n1) (by simp)
        · exact un.keep b o q (z ▸ la3) (z ▸ nst _ n0) (by simp)
  case fin =>
    intro la ks ts s3 hn gs
    obtain ⟨H', rs, sm, I3, of3, f3, la3, ks3, hvl, hle, hts⟩ := gs
    rw [List.length_map] at hn
    have ln : rs.length = ts.length := hvl.length
    have item : ∀ (j : Nat), j < rs.length → ∃ y, as[j]? = some y := fun j hj => ⟨_, List.getElem?_eq_getElem (by omega)⟩
    obtain ⟨kv, hkv, ord⟩ := O.sorts (A := X.A.in1.in1) I3 hvl fun r hr => by
      obtain ⟨j, hj⟩ := List.getElem?_of_mem hr
      obtain ⟨y, hy⟩ := item j (List.getElem?_eq_some_iff.mp hj).1
      exact ⟨_, hts j r y hj hy⟩
    refine ⟨_, ord, fun s4 out cc hla gs4 hout ko => ?_⟩
    obtain ⟨zs, e1, e2, e3⟩ := by_items (kf := kf) hn (fun j t y a1 a2 => by
      have jl : j < rs.length := by
        rw [ln]
        exact (List.getElem?_eq_some_iff.mp a1).1
      exact hkv j rs[j] t (kf y) (List.getElem?_eq_getElem jl) a1 (hts j _ y (List.getElem?_eq_getElem jl) a2)) ko
    obtain ⟨H4, _, sm4, I4, _, _, la4, _⟩ := gs4
    refine ⟨.ref la, upd H4 la (.lst (zs.map V.ref)), inv_adopt I4 (I2.fpOk hla la4) (by rw [hex]; simp) ⟨by rw [List.length_map, e2.length_eq]; exact hz, zs.map Value.ref, cc, refs_vals zs, ?_⟩, rfl, fin zs la H4 sm4 e2 e3 la4⟩
    rw [← e1, Array.toArray_toList]
    exact hout
end
end Tr
namespace Tr
open PySem PySem.Spec PyProof.Rows L2
abbrev sMoments : Stmt := top 8
/-- the lambda's name -/
def lamName : Str := "moments_alone.<locals>.<lambda>"
section
variable {P : Program} {w : World} {K : PySem.W.Frag} {mg : Str → Option Value} {base : Heap} {CS CT : Addr}
/-- when the span at a place begins -/
def begAt (H : Hp) (a : Addr) : Int := match H a with
  | some (.ins _ _ fs) => (match fs.lookup ("begins" : Str) with | some (.int i) => i | _ => 0)
  | _ => 0
theorem begAt_of {C : Addr} {H : Hp} {a dx : Addr} {x : Sq40.Span} (h : H a = some (.ins C dx (sF x))) : begAt H a = x.from_ := by
  unfold begAt
  rw [h]
  show (match (sF x).lookup ("begins" : Str) with | some (.int i) => i | _ => 0) = _
  rw [sF_begins]
theorem TRok.ext {H H' : Hp} {r : TR} (s : LamX.ExtN H H') (h : TRok CS CT H r) : TRok CS CT H' r :=
  ⟨s _ _ h.ins (fun _ z => nomatch z), s _ _ h.dict (fun _ z => nomatch z), fun e he =>
    let ⟨dx, q⟩ := h.spans e he
    ⟨dx, s _ _ q (fun _ z => nomatch z)⟩⟩
def spMoments (T : List (Addr × Str)) (CS CT : Addr) : Sp := fun vs H Q _ => ∃ (r : TR) (l : List Sq40.Span) (e : Sq40.Span × Addr), vs = [.ref r.a, .ref e.2] ∧ TRok CS CT H r ∧ Pure r.es l ∧ e ∈ r.es ∧ LamX.Tabs T H ∧
  ∀ (H' : Hp), LamX.ExtN H H' → LamX.Tabs T H' → Q (.int (Sq40.alone l e.1)) H'
theorem scMoments : FnScope ["trace", "span", "moments", "reached", "inner"] ["trace", "span"] (defScope sMoments) := ⟨rfl, rfl, rfl, by decide +kernel, rfl, by decide +kernel, by decide +kernel⟩
theorem ok_moments {f f3 c Pt : Addr} {fd3 : FuncData} {oc kV doc pm ct : Value} {od an : Option Addr} {osl : Array (Option Value)} {T : List (Addr × Str)}
    (lk : K.lookup f = some ⟨oc, od, .func (PySem.W.fnOf "moments_alone" "moments_alone" (defArgs sMoments) (defBody sMoments) (defScope sMoments) .none kV doc pm an (.ref c) ct), osl⟩) (hcd : PySem.W.codeIn K (.ref c) "moments_alone" = true)
    (TB : LamX.TabB base mg c Pt) (hmT : (Pt, lamName) ∈ T) (hu : ∀ p ∈ T, p.1 = Pt → p.2 = lamName)
    (TS : TxtS K mg CS) (TT : TxtT K mg CT) (N : TxtN mg)
    (G3 : FnOk P w K mg base CX0 2 f3 fd3 ["self", "number"] (spRightWithin CS CT)) (m3 : Meth K CT "right_within" f3) (b3 : Binds K fd3 ["self", "number"] []) :
    FnOk P w K mg base CX0 4 f (PySem.W.fnOf "moments_alone" "moments_alone" (defArgs sMoments) (defBody sMoments) (defScope sMoments) .none kV doc pm an (.ref c) ct) ["trace", "span"] (spMoments T CS CT) := by
  refine fn_of lk hcd scMoments (fun vs H Q E h => ?_) (fun A outer s H vs Q E hr h => ?_)
  · obtain ⟨r, l, e, rfl, _⟩ := h
    rfl
  · have eN : (cxOf CX0 P w K mg base ["trace", "span", "moments", "reached", "inner"] "moments_alone" (defScope sMoments) f (.ref c) A outer s H E).nox.env.qual ++ ("<lambda>" : Str) = lamName := by
      show ("moments_alone" : Str) ++ ".<locals>." ++ ("<lambda>" : Str) = lamName
      decide +kernel
    refine ⟨_, PSs.nox (pss_cons (ps_set (i := 2) scMoments.nd rfl (Or.inl rfl) pe_int)
      (pss_cons (ps_set (i := 3) scMoments.nd rfl (Or.inl rfl) (pe_fld (pv 1) rfl))
      (pss_cons (ps_for PassesOwn.never rfl (pi_list (pe_sortBy intKey (T := T) (c := c) (Pt := Pt) (k := 0) (x := "one") (Nl := ["one"]) (tb := tFld K (tVar 0) "begins") (pa_cons (pe_meth (pv 0) TT.cl m3 G3 (hr.mono (by decide)) b3 .nil pass0 (pa_cons (pe_fld (pv 1) rfl) pa_nil)) pa_nil) rfl (by rfl) N.sorted TB rfl (by rw [eN]; exact hmT) (by rw [eN]; exact hu) rfl rfl
          ⟨rfl, rfl, rfl, by decide +kernel, rfl, by decide +kernel, by decide +kernel⟩ rfl (fun _ _ _ _ _ => rfl) hr (fun _ _ _ _ _ _ _ _ => pe_fld (pv 0) rfl))) (pg_name (i := 4) scMoments.nd rfl (Or.inl rfl))
        (pss_cons (ps_aug (i := 2) scMoments.nd rfl (Or.inl rfl) (pe_callB (call_max2 rfl) (by rfl) N.max (by decide +kernel) (pa_cons pe_int (pa_cons (pe_op op_sub (pe_callB (call_min2 rfl) (by rfl) N.min (by decide +kernel) (pa_cons (pe_fld (pv 4) rfl) (pa_cons (pe_fld (pv 1) rfl) pa_nil))) (pv 3)) pa_nil))) ip_add)
        (pss_one (ps_set (i := 3) scMoments.nd rfl (Or.inl rfl) (pe_callB (call_max2 rfl) (by rfl) N.max (by decide +kernel) (pa_cons (pv 3) (pa_cons (pe_fld (pv 4) rfl) pa_nil)))))))
      (pss_one (ps_ret (pe_op op_add (pv 2) (pe_callB (call_max2 rfl) (by rfl) N.max (by decide +kernel) (pa_cons pe_int (pa_cons (pe_op op_sub (pe_fld (pv 1) rfl) (pv 3)) pa_nil))))))))), ?_⟩
    obtain ⟨r, l, e, rfl, ok, pu, em, tabs, k⟩ := h
    obtain ⟨dxe, hse⟩ := ok.spans e em
    refine ⟨_, rfl, e.2, CS, dxe, _, _, rfl, hse, TS.cl, TS.nBegins, sF_begins _, ?_⟩
    refine ⟨_, rfl, r.a, r.dx, _, rfl, ok.ins, tF_none r (by decide +kernel), _, rfl, e.2, CS, dxe, _, _, rfl, hse, TS.cl, TS.nNumber, sF_number _, e.1.id, r, l, rfl, ok, pu, fun H1 p es s1 hm hin hn hp => ?_⟩
    replace hm : es.map (·.1) = Sq40.kids l e.1.id := hm
    refine ⟨tabs.ext s1, fun H2 ext tabs2 => ⟨p, es.map (·.2), begAt H2, rfl, ?_, ?_, fun zs q H2' s2' hperm hpw hq => ?_⟩⟩
    · have := ext _ _ hp (fun _ z => nomatch z)
      unfold rfs at this
      rw [List.map_map]
      exact SqL.of this
    · intro y hy H3 s3
      obtain ⟨e2, he2, rfl⟩ := List.mem_map.mp hy
      obtain ⟨d2, h2⟩ := ((ok.same s1).ext ext).spans e2 (hin e2 he2)
      refine ⟨_, rfl, e2.2, CS, d2, _, _, rfl, s3 _ _ h2, TS.cl, TS.nBegins, sF_begins _, Same.refl _, ?_⟩
      show V.int (e2.1.from_ : Int) = V.int (begAt H2 e2.2)
      rw [begAt_of h2]
    have ok2 := (ok.same s1).ext ext
    obtain ⟨es2, hp2, hz2⟩ := perm_lift (fun e : Sq40.Span × Addr => e.2) hperm.symm
    subst hz2
    have hin2 : ∀ y ∈ es2, y ∈ r.es := fun y hy => hin y (hp2.mem_iff.mp hy)
    have kp : (es2.map (·.1)).Perm (Sq40.kids l e.1.id) := by
      rw [← hm]
      exact hp2.map _
    have ko : (es2.map (·.1)).Pairwise (fun x y => x.from_ ≤ y.from_) := by
      rw [List.pairwise_map] at hpw ⊢
      refine hpw.imp_of_mem fun {a b} ha hb h0 => ?_
      have h := of_decide_eq_false (p := begAt H2 b.2 < begAt H2 a.2) h0
      obtain ⟨d1, h1⟩ := ok2.spans a (hin2 a ha)
      obtain ⟨d2, h2⟩ := ok2.spans b (hin2 b hb)
      rw [begAt_of h1, begAt_of h2] at h
      omega
    have al := alone_is (x := e.1) kp ko fun y hy => (pu.val y hy).1
    have ok3 := (ok2.same s2').same (sameUpd (o := .lst ((es2.map (·.2)).map V.ref)) hq)
    have hq3 : upd H2' q (.lst ((es2.map (·.2)).map V.ref)) q = some (.lst (rfs es2)) := by
      rw [upd_same, List.map_map]
      rfl
    have x3 : LamX.ExtN H (upd H2' q (.lst ((es2.map (·.2)).map V.ref))) := (LamX.ExtN.of s1).trans (ext.trans (LamX.ExtN.of (s2'.trans (sameUpd hq))))
    have t3 := (tabs2.ext s2').ext (sameUpd (o := .lst ((es2.map (·.2)).map V.ref)) hq)
    have elen : (es2.map (·.2)).map V.ref = rfs es2 := by
      rw [List.map_map]
      rfl
    generalize upd H2' q (.lst ((es2.map (·.2)).map V.ref)) = H3 at ok3 hq3 x3 t3
    obtain ⟨d3, hse3⟩ := ok3.spans e em
    refine ⟨q, rfl, ⟨_, SqL.of hq3⟩, for_list (K := K) (a := q) (xs := rfs es2) (fun i σ H' => H' = H3 ∧ ∃ (m rc : Nat) (v4 : Option V), σ = [some (.ref r.a), some (.ref e.2), some (.int m), some (.int rc), v4] ∧ sweep e.1.to ((es2.map (·.1)).drop i) m rc = sweep e.1.to (es2.map (·.1)) 0 e.1.from_)
      ⟨rfl, 0, e.1.from_, none, rfl, rfl⟩ (fun i σ H' _ z => by rw [z.1]; exact SqL.of hq3) ?_ ?_⟩
    · rintro i x σ H' hi ⟨rfl, m, rc, v4, rfl, hsw⟩
      obtain ⟨y, hy, rfl⟩ : ∃ y, es2[i]? = some y ∧ x = .ref y.2 := by
        unfold rfs at hi
        rw [List.getElem?_map] at hi
        cases z : es2[i]? with
        | none =>
          rw [z] at hi
          cases hi
        | some y =>
          rw [z] at hi
          exact ⟨y, rfl, (Option.some.inj hi).symm⟩
      obtain ⟨dy, hsy⟩ := ok3.spans y (hin2 y (List.mem_of_getElem? hy))
      have hdr : (es2.map (·.1)).drop i = y.1 :: (es2.map (·.1)).drop (i + 1) := by
        obtain ⟨hlt, he⟩ := List.getElem?_eq_some_iff.mp hy
        rw [List.drop_eq_getElem_cons (by rw [List.length_map]; exact hlt)]
        congr 1
        rw [List.getElem_map, he]
      rw [hdr] at hsw
      refine ⟨_, rfl, _, rfl, y.2, CS, dy, _, _, rfl, hsy, TS.cl, TS.nBegins, sF_begins _, _, rfl, e.2, CS, d3, _, _, rfl, hse3, TS.cl, TS.nEnds, sF_ends _, _, _, rfl, _, rfl, _, _, rfl, rfl, _, _, rfl, _, _, rfl, rfl, ?_⟩
      refine ⟨_, rfl, _, rfl, y.2, CS, dy, _, _, rfl, hsy, TS.cl, TS.nEnds, sF_ends _, _, _, rfl, ?_⟩
      refine ⟨rfl, m + (min y.1.from_ e.1.to - rc), max rc y.1.to, some (.ref y.2), ?_, hsw⟩
      have a1 : ((m : Int) + if ((if (e.1.to : Int) < (y.1.from_ : Int) then (e.1.to : Int) else (y.1.from_ : Int)) - (rc : Int)) > 0 then ((if (e.1.to : Int) < (y.1.from_ : Int) then (e.1.to : Int) else (y.1.from_ : Int)) - (rc : Int)) else 0) = ((m + (min y.1.from_ e.1.to - rc) : Nat) : Int) := by
        split <;> split <;> omega
      have a2 : (if (y.1.to : Int) > (rc : Int) then (y.1.to : Int) else (rc : Int)) = ((max rc y.1.to : Nat) : Int) := by
        split <;> omega
      rw [← a1, ← a2]
      rfl
    · rintro σ H' ⟨rfl, m, rc, v4, rfl, hsw⟩
      have z : (rfs es2).length = (es2.map (·.1)).length := by
        unfold rfs
        rw [List.length_map, List.length_map]
      rw [z, List.drop_length, al] at hsw
      refine ⟨_, rfl, _, rfl, e.2, CS, d3, _, _, rfl, hse3, TS.cl, TS.nEnds, sF_ends _, _, rfl, _, _, rfl, rfl, _, _, rfl, _, _, rfl, rfl, ?_⟩
      have a1 : ((m : Int) + if ((e.1.to : Int) - (rc : Int)) > 0 then ((e.1.to : Int) - (rc : Int)) else 0) = ((Sq40.alone l e.1 : Nat) : Int) := by
        rw [← hsw]
        show _ = ((m + (e.1.to - rc) : Nat) : Int)
        split <;> omega
      show Q (.int ((m : Int) + if ((e.1.to : Int) - (rc : Int)) > 0 then ((e.1.to : Int) - (rc : Int)) else 0)) _
      rw [a1]
      exact k _ x3 t3
end
end Tr
/-! # max of three, of four whole numbers -/
namespace Tr
open PySem PySem.Spec PyProof.Rows L2
section
variable {pg : Program} {wd : World} {Ar : Around} {EE : Value → Shared → Prop} {sh : Shared}
theorem args_max4 (a b c d : Value) : argsOk "max" ⟨[a, b, c, d], []⟩ := by unfold argsOk; kernel_rfl
theorem max_four {a b c d : Int} {ta tb tc td : Tok} {QQ : Value → Shared → Prop} (hh : Ar.handled = none)
    (h : ∀ h2 tk m t, (∀ z o, sh.heap.get? z = some o → h2.get? z = some o) → (m = a ∨ m = b ∨ m = c ∨ m = d) → a ≤ m → b ≤ m → c ≤ m → d ≤ m → QQ (.int m t) { sh with heap := h2, toks := tk }) :
    wpAny (model pg wd) Ar (call (.builtin "max") [.int a ta, .int b tb, .int c tc, .int d td]) QQ EE sh := by
  have nm : (toString "max" ++ toString ".loop" : String) = "max.loop" := by decide
  have hT : (sh.heap.push { cls := .type "tuple", data := .seq #[.int a ta, .int b tb, .int c tc, .int d td] }).IsTuple sh.heap.objs.size (intItems #[(a, ta), (b, tb), (c, tc), (d, td)]) := ⟨_, Heap.get?_push_size _ rfl, rfl, 0, by simp [intItems]⟩
  have z1 : (sh.heap.push { cls := .type "tuple", data := .seq #[.int a ta, .int b tb, .int c tc, .int d td] }).objs.size = sh.heap.objs.size + 1 := Heap.size_push ..
  refine call_function_tree F.kind_max F.plain_max F.entry_max (args_max4 _ _ _ _) ?_
  show wpAny _ Ar.in1 (Builtin.Builtins.bindParams "max" ["key", "default"] 0 ⟨[], []⟩ >>= _) _ _ sh
  refine wpAny_bind (wpAny_of_eq (a := [none, none]) rfl ?_)
  show wpAny _ Ar.in1 (newTuple [.int a ta, .int b tb, .int c tc, .int d td] >>= _) _ _ sh
  refine wpAny_bind (wpAny_newObj_type ?_)
  refine wpAny_bind (wpAny_pyIter_tuple hT ?_)
  refine wpAny_bind (wpAny_newObj_type ?_)
  have WK := Walks.tuple (prog := pg) (w := wd) (A := Ar.in1) hh (sh.heap.push { cls := .type "tuple", data := .seq #[.int a ta, .int b tb, .int c tc, .int d td] }).objs.size sh.heap.objs.size (by rw [z1]; exact Nat.ne_of_lt (Nat.lt_succ_self _)) (intItems #[(a, ta), (b, tb), (c, tc), (d, td)])
  rw [nm]
  refine wpAny_pure ⟨plainId_quiet F.plain_max_loop _, codeAny_max_loop_first WK _ (CmpOf.ints_gt (numAt #[(a, ta), (b, tb), (c, tc), (d, td)]) (fun _ _ => intItems_at)) _ ?_ (by simp [intItems]) (WK.frame _ _ _ ⟨⟨_, Heap.get?_push_size _ rfl, rfl, rfl⟩, hT.push _⟩ fun b _ o e => Heap.get?_push_of_some _ e) (Heap.get?_push_size _ rfl) fun v h2 tk hP hk => ?_⟩
  · intro hd
    rcases List.mem_cons.mp hd with e | hd
    · rw [Heap.size_push] at e
      exact absurd e (Nat.ne_of_gt (Nat.lt_succ_self _))
    · rcases List.mem_cons.mp hd with e | hd
      · rw [Heap.size_push, z1] at e
        exact absurd e (Nat.ne_of_gt (Nat.lt_succ_of_lt (Nat.lt_succ_self _)))
      · cases hd
  · have four : (intItems #[(a, ta), (b, tb), (c, tc), (d, td)]).size - 1 = 3 := by simp [intItems]
    rw [four] at hP
    obtain ⟨t, rfl⟩ := intItems_at hP
    obtain ⟨le3, ub⟩ := argBest_gt (numAt #[(a, ta), (b, tb), (c, tc), (d, td)]) 3
    have n0 : numAt #[(a, ta), (b, tb), (c, tc), (d, td)] 0 = a := rfl
    have n1 : numAt #[(a, ta), (b, tb), (c, tc), (d, td)] 1 = b := rfl
    have n2 : numAt #[(a, ta), (b, tb), (c, tc), (d, td)] 2 = c := rfl
    have n3 : numAt #[(a, ta), (b, tb), (c, tc), (d, td)] 3 = d := rfl
    refine h h2 tk _ t (fun z o e => hk z o ?_ ?_ (Heap.get?_push_of_some _ (Heap.get?_push_of_some _ (Heap.get?_push_of_some _ e)))) ?_ (by rw [← n0]; exact ub 0 (by decide)) (by rw [← n1]; exact ub 1 (by decide)) (by rw [← n2]; exact ub 2 (by decide)) (by rw [← n3]; exact ub 3 (by decide))
    · intro hm
      rw [List.mem_singleton] at hm
      have := Heap.lt_size e
      rw [hm, z1] at this
      exact Nat.lt_irrefl _ (Nat.lt_of_succ_lt this)
    · have := Heap.lt_size e
      refine Nat.ne_of_lt ?_
      rw [Heap.size_push, z1]
      exact Nat.lt_succ_of_lt (Nat.lt_succ_of_lt this)
    · generalize argBest (fun i j => decide (numAt #[(a, ta), (b, tb), (c, tc), (d, td)] i > numAt #[(a, ta), (b, tb), (c, tc), (d, td)] j)) 3 = k at le3
      match k, le3 with
      | 0, _ => exact .inl rfl
      | 1, _ => exact .inr (.inl rfl)
      | 2, _ => exact .inr (.inr (.inl rfl))
      | 3, _ => exact .inr (.inr (.inr rfl))
end
section
variable {X : Cx}
theorem call_max4 (hc : X.calm = true) : CallR X (.builtin "max") (fun xs H Q => ∃ a b c d : Int, xs = [.int a, .int b, .int c, .int d] ∧ ∀ m, (m = a ∨ m = b ∨ m = c ∨ m = d) → a ≤ m → b ≤ m → c ≤ m → d ≤ m → Q (.int m) H) := by
  intro pins s σ H xs us Q I r h
  obtain ⟨a, b, c, d, rfl, q⟩ := h
  cases r with
  | cons r1 r =>
    cases r with
    | cons r2 r =>
      cases r with
      | cons r3 r =>
        cases r with
        | cons r4 r =>
          cases r
          obtain ⟨t1, rfl⟩ := r1
          obtain ⟨t2, rfl⟩ := r2
          obtain ⟨t3, rfl⟩ := r3
          obtain ⟨t4, rfl⟩ := r4
          exact max_four (I.ok.hd hc) fun h2 tk m t kp h1 h2 h3 h4 h5 => ⟨.int m, H, I.kept kp, ⟨t, rfl⟩, q m h1 h2 h3 h4 h5⟩
theorem call_max3 (hc : X.calm = true) : CallR X (.builtin "max") (fun xs H Q => ∃ a b c : Int, xs = [.int a, .int b, .int c] ∧ ∀ m, (m = a ∨ m = b ∨ m = c) → a ≤ m → b ≤ m → c ≤ m → Q (.int m) H) := by
  intro pins s σ H xs us Q I r h
  obtain ⟨a, b, c, rfl, q⟩ := h
  cases r with
  | cons r1 r =>
    cases r with
    | cons r2 r =>
      cases r with
      | cons r3 r =>
        cases r
        obtain ⟨t1, rfl⟩ := r1
        obtain ⟨t2, rfl⟩ := r2
        obtain ⟨t3, rfl⟩ := r3
        refine max_three_ints (I.ok.hd hc) fun h2 tk kp => ?_
        by_cases c1 : b > a
        · rw [if_pos c1]
          by_cases c2 : c > b
          · rw [if_pos c2]
            exact ⟨.int c, H, I.kept kp, ⟨_, rfl⟩, q c (.inr (.inr rfl)) (by omega) (by omega) (by omega)⟩
          · rw [if_neg c2]
            exact ⟨.int b, H, I.kept kp, ⟨_, rfl⟩, q b (.inr (.inl rfl)) (by omega) (by omega) (by omega)⟩
        · rw [if_neg c1]
          by_cases c2 : c > a
          · rw [if_pos c2]
            exact ⟨.int c, H, I.kept kp, ⟨_, rfl⟩, q c (.inr (.inr rfl)) (by omega) (by omega) (by omega)⟩
          · rw [if_neg c2]
            exact ⟨.int a, H, I.kept kp, ⟨_, rfl⟩, q a (.inl rfl) (by omega) (by omega) (by omega)⟩
end
end Tr
namespace Tr
open PySem PySem.Spec PyProof.Rows L2
abbrev sCanBe : Stmt := top 47
abbrev sHInit : Stmt := inClass (top 48) 0
abbrev sStart : Stmt := inClass (top 48) 1
abbrev sBegin : Stmt := inClass (top 48) 2
/-! ## The house in the heap -/
def hF (m : HM) (dT : Addr) : List (Str × V) := [("quiet", .int m.quiet), ("slow", .int m.slow), ("each", .int m.each), ("now", .int m.now), ("traces", .ref dT)]
def kvT (ts : List TR) : List (Key × V) := ts.map fun r => (Sum.inl (r.n : Int), V.ref r.a)
theorem hF_quiet (m : HM) (d : Addr) : (hF m d).lookup ("quiet" : Str) = some (.int m.quiet) := lk_here
theorem hF_slow (m : HM) (d : Addr) : (hF m d).lookup ("slow" : Str) = some (.int m.slow) := (lk_past (by decide +kernel)).trans lk_here
theorem hF_each (m : HM) (d : Addr) : (hF m d).lookup ("each" : Str) = some (.int m.each) := (lk_past (by decide +kernel)).trans ((lk_past (by decide +kernel)).trans lk_here)
theorem hF_now (m : HM) (d : Addr) : (hF m d).lookup ("now" : Str) = some (.int m.now) := (lk_past (by decide +kernel)).trans ((lk_past (by decide +kernel)).trans ((lk_past (by decide +kernel)).trans lk_here))
theorem hF_traces (m : HM) (d : Addr) : (hF m d).lookup ("traces" : Str) = some (.ref d) := (lk_past (by decide +kernel)).trans ((lk_past (by decide +kernel)).trans ((lk_past (by decide +kernel)).trans ((lk_past (by decide +kernel)).trans lk_here)))
theorem hF_none (m : HM) (d : Addr) {x : Str} (h : [("quiet" : Str), "slow", "each", "now", "traces"].contains x = false) : (hF m d).lookup x = none := by
  simp only [List.contains_cons, List.contains_nil, Bool.or_eq_false_iff, Bool.or_false] at h
  obtain ⟨h1, h2, h3, h4, h5⟩ := h
  exact (lk_past h1).trans ((lk_past h2).trans ((lk_past h3).trans ((lk_past h4).trans ((lk_past h5).trans rfl))))
/-- the classes -/
structure Cl where
  S : Addr
  T : Addr
  H : Addr
structure HouseAt (C : Cl) (H : Hp) (a : Addr) (m : HM) (dx dT : Addr) : Prop where
  ins : H a = some (.ins C.H dx (hF m dT))
  dict : H dT = some (.dK (kvT m.ts))
  trs : ∀ r ∈ m.ts, TRok C.S C.T H r
  nda : (m.ts.map (·.a)).Nodup
  nds : (m.ts.map (·.ds)).Nodup
  dn : ∀ r ∈ m.ts, r.ds ≠ dT
  an : ∀ r ∈ m.ts, r.a ≠ a
theorem HouseAt.ext {C : Cl} {H H' : Hp} {a dx dT : Addr} {m : HM} (s : LamX.ExtN H H') (h : HouseAt C H a m dx dT) : HouseAt C H' a m dx dT :=
  ⟨s _ _ h.ins (fun _ z => nomatch z), s _ _ h.dict (fun _ z => nomatch z), fun r hr => (h.trs r hr).ext s, h.nda, h.nds, h.dn, h.an⟩
theorem HouseAt.same {C : Cl} {H H' : Hp} {a dx dT : Addr} {m : HM} (s : Same H H') (h : HouseAt C H a m dx dT) : HouseAt C H' a m dx dT := h.ext (LamX.ExtN.of s)
/-- what no call of the house changes: lists, tuples, what is locked -/
def mutO : HO → Bool
  | .ins _ _ _ => true
  | .dK _ => true
  | .tbl _ => true
  | _ => false
def KeepL (H H' : Hp) : Prop := ∀ b o, H b = some o → mutO o = false → H' b = some o
theorem KeepL.of {H H' : Hp} (s : Same H H') : KeepL H H' := fun b o e _ => s b o e
theorem KeepL.ofE {H H' : Hp} (s : LamX.ExtN H H') : KeepL H H' := fun b o e q => s b o e fun ps z => by
  rw [z] at q
  cases q
theorem KeepL.trans {H H1 H2 : Hp} (a : KeepL H H1) (b : KeepL H1 H2) : KeepL H H2 := fun c o e q => b c o (a c o e q) q
theorem KeepL.refl (H : Hp) : KeepL H H := fun _ _ e _ => e
/-- a write to an instance or a dict -/
theorem KeepL.upd {H : Hp} {p : Addr} {o o' : HO} (h : H p = some o) (q : mutO o = true) : KeepL H (upd H p o') := fun b u e z => by
  have : b ≠ p := fun c => by
    rw [c, h] at e
    cases e
    rw [q] at z
    cases z
  rw [upd_ne this]
  exact e
theorem KeepL.seq {K : PySem.W.Frag} {H H' : Hp} {a : Addr} {xs : List V} (s : KeepL H H') (h : SqL K H a xs) : SqL K H' a xs := by
  rcases h with (h | ⟨o, h⟩) | h
  · exact .inl (.inl (s _ _ h rfl))
  · exact .inl (.inr ⟨o, s _ _ h rfl⟩)
  · exact .inr h
structure TxtH (K : PySem.W.Frag) (mg : Str → Option Value) (CH : Addr) : Prop where
  cl : Cls K CH
  nQuiet : NoAttr K CH "quiet"
  nSlow : NoAttr K CH "slow"
  nEach : NoAttr K CH "each"
  nNow : NoAttr K CH "now"
  nTraces : NoAttr K CH "traces"
  highest : ∃ t, mg "HIGHEST" = some (.int 1000000 t)
  service : ∃ t, mg "HIGHEST_SERVICE" = some (.int 15 t)
  time : ∃ t, mg "HIGHEST_TIME" = some (.int 2000000 t)
  most : ∃ t, mg "MOST_SPANS" = some (.int 60 t)
  cannot : ∃ t, mg "CANNOT_BE" = some (.int (-1) t)
  notrace : ∃ t, mg "NO_TRACE" = some (.int (-2) t)
  nospan : ∃ t, mg "NO_SPAN" = some (.int (-3) t)
  other : ∃ t, mg "OTHER_SPAN" = some (.int (-4) t)
  many : ∃ t, mg "TOO_MANY_SPANS" = some (.int (-5) t)
  notwhole : ∃ t, mg "NOT_WHOLE" = some (.int (-6) t)
  undec : ∃ t, mg "UNDECIDED" = some (.int 0 t)
  kept : ∃ t, mg "KEPT" = some (.int 1 t)
  dropped : ∃ t, mg "DROPPED" = some (.int 2 t)
/-- a table and its code objects stand where all stands but instances and dicts -/
theorem _root_.LamX.TabS.ext' {H H' : Hp} {P : Addr} {q : Str} (t : LamX.TabS H P q) (e : ∀ b o, H b = some o → (∀ C dx fs, o ≠ .ins C dx fs) → H' b = some o) : LamX.TabS H' P q := by
  obtain ⟨ps, h1, h2, h3⟩ := t
  refine ⟨ps, e _ _ h1 (fun _ _ _ z => nomatch z), h2, fun pos cv hc => ?_⟩
  obtain ⟨c, e1, e2⟩ := h3 pos cv hc
  exact ⟨c, e1, e _ _ e2 (fun _ _ _ z => by unfold LamX.CodeO at z; cases z)⟩
/-- no list stands there -/
def NL (H : Hp) (q : Addr) : Prop := ∀ xs, H q ≠ some (.lst xs)
theorem NL.of {H : Hp} {q : Addr} (h : H q = none) : NL H q := fun xs z => by
  rw [h] at z
  cases z
theorem NL.ext {H H1 : Hp} {q : Addr} (s : LamX.ExtN H H1) (h : H1 q = none) : NL H q := fun xs z => by
  rw [s _ _ z (fun _ y => nomatch y)] at h
  cases h
/-- an answer -/
def ans (o : Sq40.Out) : List Int := o.value :: o.out
/-- what a call of the house promises: as the specification's step -/
def Does (C : Cl) (T : List (Addr × Str)) (c : Sq40.Call) (a : Addr) (H : Hp) (Q : VK) : Prop := ∃ (m : HM) (h : Sq40.House) (dx dT : Addr), HouseAt C H a m dx dT ∧ Rel m h ∧ LamX.Tabs T H ∧
  ∀ (H' : Hp) (q : Addr) (m' : HM) (dx' dT' : Addr), HouseAt C H' a m' dx' dT' → Rel m' (h.step c).1 → LamX.Tabs T H' → KeepL H H' → NL H q → H' q = some (.lst ((ans (h.step c).2).map V.int)) → Q (.ref q) H'
theorem Does.refuse {C : Cl} {T : List (Addr × Str)} {c : Sq40.Call} {a : Addr} {H : Hp} {Q : VK} {m : HM} {h : Sq40.House} {dx dT : Addr} {z : Int} (ha : HouseAt C H a m dx dT) (R : Rel m h) (tabs : LamX.Tabs T H)
    (k : ∀ (H' : Hp) (q : Addr) (m' : HM) (dx' dT' : Addr), HouseAt C H' a m' dx' dT' → Rel m' (h.step c).1 → LamX.Tabs T H' → KeepL H H' → NL H q → H' q = some (.lst ((ans (h.step c).2).map V.int)) → Q (.ref q) H')
    (e : h.step c = (h, Sq40.says z)) {H1 : Hp} (s : Same H H1) {q : Addr} (hq : H1 q = none) : Q (.ref q) (upd H1 q (.lst [.int z])) := by
  have s2 : Same H (upd H1 q (.lst [.int z])) := s.trans (sameUpd hq)
  refine k _ q m dx dT (ha.same s2) (by rw [e]; exact R) (tabs.ext s2) (KeepL.of s2) (NL.of (s.free hq)) ?_
  rw [upd_same, e]
  rfl
section
variable {P : Program} {w : World} {K : PySem.W.Frag} {mg : Str → Option Value} {base : Heap} {C : Cl} {T : List (Addr × Str)}
/-! ### start_anew, __init__ -/
def spStart (C : Cl) : Sp := fun vs H Q _ => ∃ (a dx : Addr) (fs : List (Str × V)) (q s e : Nat), vs = [.ref a, .int q, .int s, .int e] ∧ H a = some (.ins C.H dx fs) ∧ (fs = [] ∨ ∃ (m : HM) (dT : Addr), fs = hF m dT) ∧
  ∀ (H' : Hp) (dT : Addr), H' a = some (.ins C.H dx (hF ⟨q, s, e, 0, []⟩ dT)) → H' dT = some (.dK []) → H dT = none → (∀ b o, H b = some o → b ≠ a → H' b = some o) → Q .non H'
theorem scStart : FnScope ["self", "quiet", "slow", "each"] ["self", "quiet", "slow", "each"] (defScope sStart) := ⟨rfl, rfl, rfl, by decide +kernel, rfl, by decide +kernel, by decide +kernel⟩
theorem hF_new (q s e n : Int) (d : V) : putF "traces" d (putF "now" (.int n) (putF "each" (.int e) (putF "slow" (.int s) (putF "quiet" (.int q) [])))) = ([("quiet", .int q), ("slow", .int s), ("each", .int e), ("now", .int n), ("traces", d)] : List (Str × V)) := by kernel_rfl
theorem hF_put (q s e n : Int) (d q' s' e' n' d' : V) : putF "traces" d (putF "now" (.int n) (putF "each" (.int e) (putF "slow" (.int s) (putF "quiet" (.int q) [("quiet", q'), ("slow", s'), ("each", e'), ("now", n'), ("traces", d')])))) = ([("quiet", .int q), ("slow", .int s), ("each", .int e), ("now", .int n), ("traces", d)] : List (Str × V)) := by kernel_rfl
theorem putF_len (f : Str) (v : V) : ∀ fs : List (Str × V), (putF f v fs).length ≤ fs.length + 1
  | [] => Nat.le_refl _
  | (g, x) :: r => by
    unfold putF
    split
    · exact Nat.le_succ _
    · exact Nat.succ_le_succ (putF_len f v r)
theorem ok_start {f : Addr} {fd : FuncData} (F : Fun K "start_anew" "House.start_anew" sStart f fd) (TH : TxtH K mg C.H) :
    FnOk P w K mg base CX0 1 f fd ["self", "quiet", "slow", "each"] (spStart C) := by
  refine F.ok scStart (fun vs H Q E h => ?_) (fun cdv A outer s H vs Q E hr h => ?_)
  · obtain ⟨a, dx, fs, q, s, e, rfl, _⟩ := h
    rfl
  · refine ⟨_, pss_cons (ps_fld (pv 0) (pv 1) rfl) (pss_cons (ps_fld (pv 0) (pv 2) rfl) (pss_cons (ps_fld (pv 0) (pv 3) rfl) (pss_cons (ps_fld (pv 0) pe_int rfl) (pss_one (ps_fld (pv 0) pe_dnewK rfl))))), ?_⟩
    obtain ⟨a, dx, fs, q, s, e, rfl, ha, hfs, k⟩ := h
    have l0 : fs.length ≤ 5 := by
      rcases hfs with rfl | ⟨m, dT, rfl⟩
      · decide
      · exact Nat.le_refl 5
    have l1 := putF_len "quiet" (.int q) fs
    have l2 := putF_len "slow" (.int s) (putF "quiet" (.int q) fs)
    have l3 := putF_len "each" (.int e) (putF "slow" (.int s) (putF "quiet" (.int q) fs))
    have l4 := putF_len "now" (.int 0) (putF "each" (.int e) (putF "slow" (.int s) (putF "quiet" (.int q) fs)))
    refine ⟨_, rfl, _, rfl, a, C.H, dx, _, rfl, ha, TH.cl, TH.nQuiet, by omega, ?_⟩
    refine ⟨_, rfl, _, rfl, a, C.H, dx, _, rfl, upd_same, TH.cl, TH.nSlow, by omega, ?_⟩
    refine ⟨_, rfl, _, rfl, a, C.H, dx, _, rfl, upd_same, TH.cl, TH.nEach, by omega, ?_⟩
    refine ⟨_, rfl, a, C.H, dx, _, rfl, upd_same, TH.cl, TH.nNow, by omega, ?_⟩
    intro d hd
    have da : d ≠ a := fun z => by
      rw [z, upd_same] at hd
      cases hd
    refine ⟨_, rfl, a, C.H, dx, _, rfl, (upd_ne (Ne.symm da)).trans upd_same, TH.cl, TH.nTraces, by omega, ?_⟩
    have hd0 : H d = none := by
      rw [upd_ne da, upd_ne da, upd_ne da, upd_ne da] at hd
      exact hd
    refine k _ d ?_ ?_ hd0 fun b o hb hn => ?_
    · rw [upd_same]
      rcases hfs with rfl | ⟨m, dT, rfl⟩
      · exact congrArg (fun z => some (HO.ins C.H dx z)) (hF_new q s e 0 (.ref d))
      · exact congrArg (fun z => some (HO.ins C.H dx z)) (hF_put q s e 0 (.ref d) _ _ _ _ _)
    · rw [upd_ne da, upd_same]
    · rw [upd_ne hn, upd_ne (ne_of_none hb hd0), upd_ne hn, upd_ne hn, upd_ne hn, upd_ne hn]
      exact hb
def spHInit (C : Cl) : Sp := fun vs H Q _ => ∃ (a dx : Addr) (q s e : Nat), vs = [.ref a, .int q, .int s, .int e] ∧ H a = some (.ins C.H dx []) ∧
  ∀ (H' : Hp) (dT : Addr), H' a = some (.ins C.H dx (hF ⟨q, s, e, 0, []⟩ dT)) → H' dT = some (.dK []) → H dT = none → (∀ b o, H b = some o → b ≠ a → H' b = some o) → Q .non H'
theorem scHInit : FnScope ["self", "quiet", "slow", "each"] ["self", "quiet", "slow", "each"] (defScope sHInit) := ⟨rfl, rfl, rfl, by decide +kernel, rfl, by decide +kernel, by decide +kernel⟩
theorem ok_hInit {f f1 : Addr} {fd fd1 : FuncData} (F : Fun K "__init__" "House.__init__" sHInit f fd) (TH : TxtH K mg C.H)
    (G1 : FnOk P w K mg base CX0 1 f1 fd1 ["self", "quiet", "slow", "each"] (spStart C)) (m1 : Meth K C.H "start_anew" f1) (b1 : Binds K fd1 ["self", "quiet", "slow", "each"] []) :
    FnOk P w K mg base CX0 2 f fd ["self", "quiet", "slow", "each"] (spHInit C) := by
  refine F.ok scHInit (fun vs H Q E h => ?_) (fun cdv A outer s H vs Q E hr h => ?_)
  · obtain ⟨a, dx, q, s, e, rfl, _⟩ := h
    rfl
  · refine ⟨_, pss_one (ps_expr (pe_meth (pv 0) TH.cl m1 G1 hr b1 .nil pass0 (pa_cons (pv 1) (pa_cons (pv 2) (pa_cons (pv 3) pa_nil))))), ?_⟩
    obtain ⟨a, dx, q, s, e, rfl, ha, k⟩ := h
    refine ⟨_, rfl, a, dx, _, rfl, ha, rfl, _, rfl, _, rfl, _, rfl, a, dx, [], q, s, e, rfl, ha, .inl rfl, fun H' dT h1 h2 h3 h4 => ?_⟩
    exact k H' dT h1 h2 h3 h4
/-! ### begin -/
def spBegin (C : Cl) (T : List (Addr × Str)) : Sp := fun vs H Q _ => ∃ (a : Addr) (q s e : Nat), vs = [.ref a, .int q, .int s, .int e] ∧ Does C T (.begin_ q s e) a H Q
theorem scBegin : FnScope ["self", "quiet", "slow", "each"] ["self", "quiet", "slow", "each"] (defScope sBegin) := ⟨rfl, rfl, rfl, by decide +kernel, rfl, by decide +kernel, by decide +kernel⟩
theorem ok_begin {f f1 : Addr} {fd fd1 : FuncData} (F : Fun K "begin" "House.begin" sBegin f fd) (TH : TxtH K mg C.H) (N : TxtN mg)
    (G1 : FnOk P w K mg base CX0 1 f1 fd1 ["self", "quiet", "slow", "each"] (spStart C)) (m1 : Meth K C.H "start_anew" f1) (b1 : Binds K fd1 ["self", "quiet", "slow", "each"] []) :
    FnOk P w K mg base CX0 2 f fd ["self", "quiet", "slow", "each"] (spBegin C T) := by
  obtain ⟨tH, eH⟩ := TH.highest
  obtain ⟨tC, eC⟩ := TH.cannot
  refine F.ok scBegin (fun vs H Q E h => ?_) (fun cdv A outer s H vs Q E hr h => ?_)
  · obtain ⟨a, q, s, e, rfl, _⟩ := h
    rfl
  · refine ⟨_, pss_cons (ps_if (PW.pt (pw_or (pt_cmpR op_gt (pe_callB (call_max3 rfl) (by rfl) N.max (by decide +kernel) (pa_cons (pv 1) (pa_cons (pv 2) (pa_cons (pv 3) pa_nil)))) (pe_glob (v := .int 1000000) rfl eH ⟨_, rfl⟩) (nomark _)) (pw_or1 (pt_cmpR op_eq (pv 3) pe_int (nomark _)))))
        (pss_one (ps_ret (pe_lst (pa_cons (pe_glob (v := .int (-1)) rfl eC ⟨_, rfl⟩) pa_nil)))) pss_nil)
      (pss_cons (ps_expr (pe_meth (pv 0) TH.cl m1 G1 hr b1 .nil pass0 (pa_cons (pv 1) (pa_cons (pv 2) (pa_cons (pv 3) pa_nil)))))
      (pss_one (ps_ret (pe_lst (pa_cons pe_int pa_nil))))), ?_⟩
    obtain ⟨a, q, s, e, rfl, m, h, dx, dT, ha, R, tabs, k⟩ := h
    have bad : (1000000 < q ∨ 1000000 < s ∨ e = 0 ∨ 1000000 < e) → ∀ p, H p = none → Q (.ref p) (upd H p (.lst [.int (-1)])) := fun c p hp => Does.refuse ha R tabs k (show (if _ then _ else _) = _ from if_pos c) (Same.refl H) hp
    refine ⟨_, rfl, _, rfl, _, rfl, q, s, e, rfl, fun mx h1 h2 h3 h4 => ⟨_, _, rfl, rfl, _, rfl, ?_⟩⟩
    by_cases c1 : (1000000 : Int) < mx
    · rw [decide_eq_true c1]
      refine iteT (iteT ⟨by show 1 ≤ sizeLine; decide, fun p hp => bad ?_ p hp⟩)
      omega
    rw [decide_eq_false c1]
    refine iteF ⟨_, rfl, rfl, _, rfl, ?_⟩
    by_cases c2 : e = 0
    · rw [decide_eq_true (show V.int (e : Int) = V.int 0 by rw [c2]; rfl)]
      refine iteT ⟨by show 1 ≤ sizeLine; decide, fun p hp => bad ?_ p hp⟩
      omega
    rw [decide_eq_false (fun z => c2 (by have := V.int.inj z; omega))]
    refine iteF ⟨_, rfl, a, dx, _, rfl, ha.ins, hF_none m dT (by decide +kernel), _, rfl, _, rfl, _, rfl, a, dx, _, q, s, e, rfl, ha.ins, .inr ⟨m, dT, rfl⟩, fun H' dN i1 i2 i3 i4 => ⟨by show 1 ≤ sizeLine; decide, fun p hp => ?_⟩⟩
    have st : h.step (.begin_ q s e) = (⟨q, s, e, [], [], [], 0⟩, Sq40.says 0) := if_neg (by
      show ¬ (1000000 < q ∨ 1000000 < s ∨ e = 0 ∨ 1000000 < e)
      omega)
    have sp := sameUpd (o := .lst [.int 0]) hp
    refine k _ p ⟨q, s, e, 0, []⟩ dx dN ⟨sp _ _ i1, sp _ _ i2, fun _ z => (by cases z), List.nodup_nil, List.nodup_nil, fun _ z => (by cases z), fun _ z => (by cases z)⟩ (by rw [st]; exact rel_begin (by omega)) (fun t ht => ?_) (fun b o hb hq => sp _ _ (i4 b o hb fun z => ?_)) ?_ ?_
    · refine ((tabs t ht).ext' fun b o hb hn => sp _ _ (i4 b o hb fun z => ?_))
      rw [z, ha.ins] at hb
      cases hb
      exact hn _ _ _ rfl
    · rw [z, ha.ins] at hb
      cases hb
      cases hq
    · refine NL.of ?_
      cases z : H p with
      | none => rfl
      | some o =>
        exfalso
        by_cases y : p = a
        · rw [y, i1] at hp
          cases hp
        · rw [i4 p o z y] at hp
          cases hp
    · rw [upd_same, st]
      rfl
end
end Tr
namespace Tr
open PySem PySem.Spec PyProof.Rows L2
abbrev sHowMany : Stmt := inClass (top 48) 4
abbrev sTold : Stmt := top 49
/-- whether a span can be -/
def okSpan (t : Nat) (x : Sq40.Span) : Bool := decide (t ≤ 1000000) && (decide (x.id ≤ 1000000) && (decide (wI x.up ≤ 1000001) && (decide (x.service ≤ 15) && (decide (x.to ≤ 1000000) && decide (x.from_ < x.to)))))
theorem okSpan_iff {t : Nat} {x : Sq40.Span} : okSpan t x = true ↔ t ≤ 1000000 ∧ x.id ≤ 1000000 ∧ wI x.up ≤ 1000001 ∧ x.service ≤ 15 ∧ x.to ≤ 1000000 ∧ x.from_ < x.to := by
  simp [okSpan]
theorem okSpan_false {t : Nat} {x : Sq40.Span} (h : ¬ (t ≤ 1000000 ∧ x.id ≤ 1000000 ∧ wI x.up ≤ 1000001 ∧ x.service ≤ 15 ∧ x.to ≤ 1000000 ∧ x.from_ < x.to)) : okSpan t x = false := by
  cases e : okSpan t x with
  | false => rfl
  | true => exact absurd (okSpan_iff.mp e) h
section
variable {P : Program} {w : World} {K : PySem.W.Frag} {mg : Str → Option Value} {base : Heap} {C : Cl} {T : List (Addr × Str)}
def spCanBe (C : Cl) : Sp := fun vs H Q _ => ∃ (t : Nat) (p : Addr) (x : Sq40.Span), vs = [.int t, .ref p] ∧ SpanAt C.S H p x ∧ Q (.bl (okSpan t x)) H
theorem scCanBe : FnScope ["trace_number", "span"] ["trace_number", "span"] (defScope sCanBe) := ⟨rfl, rfl, rfl, by decide +kernel, rfl, by decide +kernel, by decide +kernel⟩
theorem ok_canBe {f : Addr} {fd : FuncData} (F : Fun K "can_be" "can_be" sCanBe f fd) (TS : TxtS K mg C.S) (TH : TxtH K mg C.H) (N : TxtN mg) :
    FnOk P w K mg base CX0 1 f fd ["trace_number", "span"] (spCanBe C) := by
  obtain ⟨tH, eH⟩ := TH.highest
  obtain ⟨tV, eV⟩ := TH.service
  refine F.ok scCanBe (fun vs H Q E h => ?_) (fun cdv A outer s H vs Q E hr h => ?_)
  · obtain ⟨t, p, x, rfl, _⟩ := h
    rfl
  · refine ⟨_, pss_cons (ps_if (pt_cmpR op_gt (pe_callB (call_max4 rfl) (by rfl) N.max (by decide +kernel) (pa_cons (pv 0) (pa_cons (pe_fld (pv 1) rfl) (pa_cons (pe_fld (pv 1) rfl) (pa_cons (pe_fld (pv 1) rfl) pa_nil))))) (pe_glob (v := .int 1000000) rfl eH ⟨_, rfl⟩) (nomark _)) (pss_one (ps_ret pe_bl)) pss_nil)
      (pss_cons (ps_if (PW.pt (pw_or (pt_cmpR op_gt (pe_fld (pv 1) rfl) (pe_op op_add (pe_glob (v := .int 1000000) rfl eH ⟨_, rfl⟩) pe_int) (nomark _)) (pw_or1 (pt_cmpR op_gt (pe_fld (pv 1) rfl) (pe_glob (v := .int 15) rfl eV ⟨_, rfl⟩) (nomark _))))) (pss_one (ps_ret pe_bl)) pss_nil)
      (pss_one (ps_ret (pe_cmpR op_lt (pe_fld (pv 1) rfl) (pe_fld (pv 1) rfl) (nomark _))))), ?_⟩
    obtain ⟨t, p, x, rfl, ⟨dx, hp⟩, k⟩ := h
    refine ⟨_, rfl, _, rfl, p, C.S, dx, _, _, rfl, hp, TS.cl, TS.nNumber, sF_number _, _, rfl, p, C.S, dx, _, _, rfl, hp, TS.cl, TS.nBegins, sF_begins _, _, rfl, p, C.S, dx, _, _, rfl, hp, TS.cl, TS.nEnds, sF_ends _, _, _, _, _, rfl, fun mx h1 h2 h3 h4 h5 => ⟨_, _, rfl, rfl, _, rfl, ?_⟩⟩
    by_cases c1 : (1000000 : Int) < mx
    · rw [decide_eq_true c1]
      refine iteT ?_
      rw [okSpan_false (by omega)] at k
      exact k
    rw [decide_eq_false c1]
    refine iteF ⟨_, rfl, p, C.S, dx, _, _, rfl, hp, TS.cl, TS.nWithin, sF_within _, _, _, rfl, rfl, _, _, rfl, rfl, _, rfl, ?_⟩
    by_cases c2 : (1000000 : Int) + 1 < wI x.up
    · rw [decide_eq_true c2]
      refine iteT (iteT ?_)
      rw [okSpan_false (by omega)] at k
      exact k
    rw [decide_eq_false c2]
    refine iteF ⟨_, rfl, p, C.S, dx, _, _, rfl, hp, TS.cl, TS.nService, sF_service _, _, _, rfl, rfl, _, rfl, ?_⟩
    by_cases c3 : (15 : Int) < (x.service : Int)
    · rw [decide_eq_true c3]
      refine iteT ?_
      rw [okSpan_false (by omega)] at k
      exact k
    rw [decide_eq_false c3]
    refine iteF ⟨_, rfl, p, C.S, dx, _, _, rfl, hp, TS.cl, TS.nBegins, sF_begins _, _, rfl, p, C.S, dx, _, _, rfl, hp, TS.cl, TS.nEnds, sF_ends _, _, _, rfl, rfl, ?_⟩
    show Q (.bl (decide ((x.from_ : Int) < (x.to : Int)))) H
    by_cases c4 : (x.from_ : Int) < (x.to : Int)
    · rw [decide_eq_true c4]
      rw [okSpan_iff.mpr (by omega)] at k
      exact k
    · rw [decide_eq_false c4]
      rw [okSpan_false (by omega)] at k
      exact k
/-! ### facts -/
def fctV (x : Sq40.Span) : List V := [.int x.id, .int (wI x.up), .int x.service, .int x.from_, .int x.to, .bl x.failed]
def spFacts (C : Cl) : Sp := fun vs H Q _ => ∃ (p : Addr) (x : Sq40.Span), vs = [.ref p] ∧ SpanAt C.S H p x ∧ ∀ q, H q = none → Q (.ref q) (upd H q (.tup (fctV x)))
theorem scFacts : FnScope ["self"] ["self"] (defScope sFacts) := ⟨rfl, rfl, rfl, by decide +kernel, rfl, by decide +kernel, by decide +kernel⟩
theorem ok_facts {f : Addr} {fd : FuncData} (F : Fun K "facts" "Span.facts" sFacts f fd) (TS : TxtS K mg C.S) :
    FnOk P w K mg base CX0 1 f fd ["self"] (spFacts C) := by
  refine F.ok scFacts (fun vs H Q E h => ?_) (fun cdv A outer s H vs Q E hr h => ?_)
  · obtain ⟨p, x, rfl, _⟩ := h
    rfl
  · refine ⟨_, pss_one (ps_ret (pe_tup (pa_cons (pe_fld (pv 0) rfl) (pa_cons (pe_fld (pv 0) rfl) (pa_cons (pe_fld (pv 0) rfl) (pa_cons (pe_fld (pv 0) rfl) (pa_cons (pe_fld (pv 0) rfl) (pa_cons (pe_fld (pv 0) rfl) pa_nil)))))))), ?_⟩
    obtain ⟨p, x, rfl, ⟨dx, hp⟩, k⟩ := h
    refine ⟨_, rfl, p, C.S, dx, _, _, rfl, hp, TS.cl, TS.nNumber, sF_number _, _, rfl, p, C.S, dx, _, _, rfl, hp, TS.cl, TS.nWithin, sF_within _, _, rfl, p, C.S, dx, _, _, rfl, hp, TS.cl, TS.nService, sF_service _,
      _, rfl, p, C.S, dx, _, _, rfl, hp, TS.cl, TS.nBegins, sF_begins _, _, rfl, p, C.S, dx, _, _, rfl, hp, TS.cl, TS.nEnds, sF_ends _, _, rfl, p, C.S, dx, _, _, rfl, hp, TS.cl, TS.nFailed, sF_failed _, by show 6 ≤ sizeLine; decide, fun q hq => k q hq⟩
def fctD (x : Sq40.Span) : PyData := .tuple [.int x.id, .int (wI x.up), .int x.service, .int x.from_, .int x.to, .bool x.failed]
theorem fctD_shaped (x : Sq40.Span) : SeqAt.shaped (fctD x) = true := by kernel_rfl
theorem fctD_dp {H : Hp} {q : Addr} {x : Sq40.Span} (h : H q = some (.tup (fctV x))) : Dp K H (.ref q) (fctD x) :=
  .tup (SqT.of h) (.cons (.int _) (.cons (.int _) (.cons (.int _) (.cons (.int _) (.cons (.int _) (.cons (.bl _) .nil))))))
theorem wI_inj {u v : Option Nat} (h : wI u = wI v) : u = v := by
  cases u <;> cases v <;> simp only [wI] at h
  · rfl
  · omega
  · omega
  · congr 1
    omega
theorem fctD_eqv {x y : Sq40.Span} (ht : x.trace = y.trace) : PyData.eqv (fctD x) (fctD y) = decide (x = y) := by
  have e : PyData.eqv (fctD x) (fctD y) = (((x.id : Int) == y.id) && ((wI x.up == wI y.up) && (((x.service : Int) == y.service) && (((x.from_ : Int) == y.from_) && (((x.to : Int) == y.to) && ((x.failed == y.failed) && true)))))) := by
    unfold fctD
    simp only [PyData.eqv, PyData.eqvAll]
  rw [e]
  by_cases c : x = y
  · subst c
    simp
  · rw [decide_eq_false c]
    cases z : (((x.id : Int) == y.id) && ((wI x.up == wI y.up) && (((x.service : Int) == y.service) && (((x.from_ : Int) == y.from_) && (((x.to : Int) == y.to) && ((x.failed == y.failed) && true)))))) with
    | false => rfl
    | true =>
      exfalso
      simp only [Bool.and_eq_true, beq_iff_eq, Bool.and_true] at z
      obtain ⟨h1, h2, h3, h4, h5, h6⟩ := z
      apply c
      cases x
      cases y
      simp only [Sq40.Span.mk.injEq]
      simp only at *
      exact ⟨ht, by omega, wI_inj h2, by omega, by omega, by omega, h6⟩
/-! ### Trace(number) -/
def tF0 (n : Nat) (ds : Addr) : List (Str × V) := [("number", .int n), ("spans", .ref ds), ("heard", .int 0), ("verdict", .int 0)]
def spTraceInit (C : Cl) : Sp := fun vs H Q _ => ∃ (a dx : Addr) (n : Nat), vs = [.ref a, .int n] ∧ H a = some (.ins C.T dx []) ∧
  ∀ (H' : Hp) (ds : Addr), H' a = some (.ins C.T dx (tF0 n ds)) → H' ds = some (.dK []) → H ds = none → (∀ b o, H b = some o → b ≠ a → H' b = some o) → Q .non H'
theorem scTraceInit : FnScope ["self", "number"] ["self", "number"] (defScope sTraceInit) := ⟨rfl, rfl, rfl, by decide +kernel, rfl, by decide +kernel, by decide +kernel⟩
theorem tF0_new (n a b : Int) (d : V) : putF "verdict" (.int b) (putF "heard" (.int a) (putF "spans" d (putF "number" (.int n) []))) = ([("number", .int n), ("spans", d), ("heard", .int a), ("verdict", .int b)] : List (Str × V)) := by kernel_rfl
theorem ok_traceInit {f : Addr} {fd : FuncData} (F : Fun K "__init__" "Trace.__init__" sTraceInit f fd) (TT : TxtT K mg C.T) :
    FnOk P w K mg base CX0 1 f fd ["self", "number"] (spTraceInit C) := by
  obtain ⟨tU, eU⟩ := TT.undec
  refine F.ok scTraceInit (fun vs H Q E h => ?_) (fun cdv A outer s H vs Q E hr h => ?_)
  · obtain ⟨a, dx, n, rfl, _⟩ := h
    rfl
  · refine ⟨_, pss_cons (ps_fld (pv 0) (pv 1) rfl) (pss_cons (ps_fld (pv 0) pe_dnewK rfl) (pss_cons (ps_fld (pv 0) pe_int rfl) (pss_one (ps_fld (pv 0) (pe_glob (v := .int 0) rfl eU ⟨_, rfl⟩) rfl)))), ?_⟩
    obtain ⟨a, dx, n, rfl, ha, k⟩ := h
    refine ⟨_, rfl, _, rfl, a, C.T, dx, _, rfl, ha, TT.cl, TT.nNumber, by show 0 < 1000; decide, ?_⟩
    intro d hd
    have da : d ≠ a := fun z => by
      rw [z, upd_same] at hd
      cases hd
    have hd0 : H d = none := by
      rw [upd_ne da] at hd
      exact hd
    refine ⟨_, rfl, a, C.T, dx, _, rfl, (upd_ne (Ne.symm da)).trans upd_same, TT.cl, TT.nSpans, by show 1 < 1000; decide, ?_⟩
    refine ⟨_, rfl, a, C.T, dx, _, rfl, upd_same, TT.cl, TT.nHeard, by show 2 < 1000; decide, ?_⟩
    refine ⟨_, rfl, a, C.T, dx, _, rfl, upd_same, TT.cl, TT.nVerdict, by show 3 < 1000; decide, ?_⟩
    refine k _ d ?_ ?_ hd0 fun b o hb hn => ?_
    · rw [upd_same]
      exact congrArg (fun z => some (HO.ins C.T dx z)) (tF0_new n 0 0 (.ref d))
    · rw [upd_ne da, upd_ne da, upd_ne da, upd_same]
    · rw [upd_ne hn, upd_ne hn, upd_ne hn, upd_ne (ne_of_none hb hd0), upd_ne hn]
      exact hb
/-! ### told_span -/
def spanOf (t i u s a b f : Nat) : Sq40.Span := ⟨t, i, if u = 0 then none else some (u - 1), s, a, b, f != 0⟩
theorem spanOf_F (t i u s a b f : Nat) : sF (spanOf t i u s a b f) = ([("number", .int i), ("within", .int u), ("service", .int s), ("begins", .int a), ("ends", .int b), ("failed", .bl (!decide (V.int (f : Int) = V.int 0)))] : List (Str × V)) := by
  have e1 : wI (if u = 0 then none else some (u - 1)) = (u : Int) := by
    by_cases c : u = 0
    · rw [if_pos c, c]
      rfl
    · rw [if_neg c]
      show ((u - 1 : Nat) : Int) + 1 = u
      omega
  have e2 : (f != 0) = !decide (V.int (f : Int) = V.int 0) := by
    by_cases c : f = 0
    · rw [c]
      rfl
    · rw [decide_eq_false (fun z => c (by have := V.int.inj z; omega))]
      simpa using c
  unfold sF spanOf
  dsimp only
  rw [e1, e2]
def spTold (K : PySem.W.Frag) (C : Cl) : Sp := fun vs H Q _ => ∃ (g : Addr) (i u s a b f : Nat), vs = [.ref g] ∧ SqL K H g [.int i, .int u, .int s, .int a, .int b, .int f] ∧
  ∀ (H' : Hp) (p : Addr), Same H H' → H p = none → (∀ t, SpanAt C.S H' p (spanOf t i u s a b f)) → Q (.ref p) H'
theorem scTold : FnScope ["given"] ["given"] (defScope sTold) := ⟨rfl, rfl, rfl, by decide +kernel, rfl, by decide +kernel, by decide +kernel⟩
theorem ok_told {f f1 : Addr} {fd fd1 : FuncData} (F : Fun K "told_span" "told_span" sTold f fd) (M : Mk K C.S f1) (gS : mg "Span" = some (.ref C.S))
    (G1 : FnOk P w K mg base CX0 1 f1 fd1 ["self", "number", "within", "service", "begins", "ends", "failed"] (spSpanInit C.S)) (b1 : Binds K fd1 ["self", "number", "within", "service", "begins", "ends", "failed"] []) :
    FnOk P w K mg base CX0 3 f fd ["given"] (spTold K C) := by
  refine F.ok scTold (fun vs H Q E h => ?_) (fun cdv A outer s H vs Q E hr h => ?_)
  · obtain ⟨g, i, u, s, a, b, f, rfl, _⟩ := h
    rfl
  · refine ⟨_, pss_one (ps_ret (pe_make M G1 hr rfl gS b1 .nil pass0 (pa_cons (pe_ix ix_list (pv 0) pe_int (fun _ _ => rfl)) (pa_cons (pe_ix ix_list (pv 0) pe_int (fun _ _ => rfl)) (pa_cons (pe_ix ix_list (pv 0) pe_int (fun _ _ => rfl)) (pa_cons (pe_ix ix_list (pv 0) pe_int (fun _ _ => rfl)) (pa_cons (pe_ix ix_list (pv 0) pe_int (fun _ _ => rfl))
      (pa_cons (pe_cmpR op_ne (pe_ix ix_list (pv 0) pe_int (fun _ _ => rfl)) pe_int (nomark _)) pa_nil)))))))), ?_⟩
    obtain ⟨g, i, u, s, a, b, f, rfl, hg, k⟩ := h
    refine ⟨_, rfl, g, _, 0, _, rfl, rfl, hg, atI_nat (j := 0) rfl, _, rfl, g, _, 1, _, rfl, rfl, hg, atI_nat (j := 1) rfl, _, rfl, g, _, 2, _, rfl, rfl, hg, atI_nat (j := 2) rfl, _, rfl, g, _, 3, _, rfl, rfl, hg, atI_nat (j := 3) rfl, _, rfl, g, _, 4, _, rfl, rfl, hg, atI_nat (j := 4) rfl,
      _, rfl, g, _, 5, _, rfl, rfl, hg, atI_nat (j := 5) rfl, rfl, ?_⟩
    intro x dx nx nd ne
    refine ⟨x, dx, i, u, s, a, b, _, rfl, upd_same, fun H' h1 h2 => ⟨rfl, ?_⟩⟩
    refine k H' x (Same.made nx nd h2) nx fun t => ⟨dx, ?_⟩
    rw [spanOf_F]
    exact h1
/-! ### how_many_spans -/
def spHowMany (C : Cl) : Sp := fun vs H Q _ => ∃ (a dx dT : Addr) (m : HM), vs = [.ref a] ∧ HouseAt C H a m dx dT ∧ m.ts.length ≤ 60 ∧ ∀ (H' : Hp), Same H H' → Q (.int ((m.ts.map fun r => r.es.length).sum : Nat)) H'
theorem scHowMany : FnScope ["self", "trace"] ["self"] (defScope sHowMany) := ⟨rfl, rfl, rfl, by decide +kernel, rfl, by decide +kernel, by decide +kernel⟩
theorem sum_cast (l : List Nat) : (l.map fun (n : Nat) => (n : Int)).sum = ((l.sum : Nat) : Int) := by
  induction l with
  | nil => rfl
  | cons a l ih =>
    rw [List.map_cons, List.sum_cons, List.sum_cons, ih]
    omega
theorem ok_howMany {f : Addr} {fd : FuncData} (F : Fun K "how_many_spans" "House.how_many_spans" sHowMany f fd) (TT : TxtT K mg C.T) (TH : TxtH K mg C.H) (N : TxtN mg) (nsum : mg "sum" = none) :
    FnOk P w K mg base CX0 1 f fd ["self"] (spHowMany C) := by
  refine F.ok scHowMany (fun vs H Q E h => ?_) (fun cdv A outer s H vs Q E hr h => ?_)
  · obtain ⟨a, dx, dT, m, rfl, _⟩ := h
    rfl
  · refine ⟨_, pss_one (ps_ret (pe_callB (cr_sum rfl) (by rfl) nsum (by decide +kernel) (pa_cons (pe_lock (pe_lc (own := [("trace", 1)]) (g := gName 1) (tt := tYes) (te := tCB (fun xs H Q => ∃ a kvs, xs = [V.ref a] ∧ H a = some (.dK kvs) ∧ Q (.int kvs.length) H) (tCons (tFld K (tVar 1) "spans") tNil)) rfl scHowMany.nd (pi_values (pe_fld (pv 0) rfl))
      (blkOk_by (N := ["self", "trace"]) (sc := defScope sHowMany) (by decide +kernel)) (fun _ _ _ _ _ => pg_name (i := 1) scHowMany.nd rfl (Or.inl rfl))
      (fun _ _ _ _ _ => pts_nil) (fun _ _ _ _ _ => pe_callB call_lenD (by rfl) N.len PySem.boot_len (pa_cons (pe_fld (pv 1) rfl) pa_nil)))) pa_nil))), ?_⟩
    obtain ⟨a, dx, dT, m, rfl, ha, few, k⟩ := h
    have adT : a ≠ dT := ne_of ha.ins ha.dict (by intro z; cases z)
    refine ⟨dT, .dK (kvT m.ts), ha.dict, trivial, fun od => ?_⟩
    refine ⟨_, rfl, a, C.H, dx, _, _, rfl, Same.lk ha.ins adT, TH.cl, TH.nTraces, hF_traces m dT, dT, od, kvT m.ts, rfl, upd_same, fun D hD => ?_⟩
    refine lc_valsPick (es := m.ts) (fun r => (Sum.inl (r.n : Int), V.ref r.a)) (fun r => V.int (r.es.length : Nat)) (fun _ => true) upd_same hD (Nat.lt_of_le_of_lt few (by decide)) ?_ ?_
    · intro r hrm H' s2 A B h1 h2
      have ok := ha.trs r hrm
      have i1 := s2 _ _ (Same.lk (d := dT) (o := .frz od (.dK (kvT m.ts))) ok.ins (ne_of ok.ins ha.dict (by intro z; cases z)))
      have i2 := s2 _ _ (Same.lk (d := dT) (o := .frz od (.dK (kvT m.ts))) ok.dict (ha.dn r hrm))
      refine ⟨rfl, yes_if ?_⟩
      refine ⟨_, rfl, r.a, C.T, r.dx, _, _, rfl, i1, TT.cl, TT.nSpans, tF_spans r, r.ds, _, rfl, i2, ?_⟩
      have e : (kvS r.es).length = r.es.length := by
        unfold kvS
        rw [List.length_map]
      rw [e]
      exact h1 rfl
    · intro H' s2 hd
      refine ⟨s2 _ _ upd_same, ?_⟩
      have hDn : D ≠ dT := fun z => by
        rw [z, upd_same] at hD
        cases hD
      refine ⟨D, (m.ts.map fun r => r.es.length).map fun (n : Nat) => (n : Int), rfl, SqL.of ?_, ?_⟩
      · rw [upd_ne hDn, hd, filter_all, List.map_map, List.map_map]
        rfl
      · rw [sum_cast]
        exact k _ (lock_same ha.dict s2)
end
end Tr
namespace Tr
open PySem PySem.Spec PyProof.Rows L2
abbrev sSpan : Stmt := inClass (top 48) 3
theorem okSpan_bad {t i u s a b f : Nat} : okSpan t (spanOf t i u s a b f) = false ↔ (1000000 < t ∨ 1000000 < i ∨ 1000001 < u ∨ 16 ≤ s ∨ 1000000 < b ∨ b ≤ a) := by
  have e1 : wI (spanOf t i u s a b f).up = (u : Int) := by
    show wI (if u = 0 then none else some (u - 1)) = (u : Int)
    by_cases c : u = 0
    · rw [if_pos c, c]
      rfl
    · rw [if_neg c]
      show ((u - 1 : Nat) : Int) + 1 = u
      omega
  have e2 : (spanOf t i u s a b f).id = i := rfl
  have e3 : (spanOf t i u s a b f).service = s := rfl
  have e4 : (spanOf t i u s a b f).from_ = a := rfl
  have e5 : (spanOf t i u s a b f).to = b := rfl
  cases e : okSpan t (spanOf t i u s a b f) with
  | false =>
    refine ⟨fun _ => ?_, fun _ => rfl⟩
    refine Decidable.byContradiction fun z => ?_
    have := okSpan_iff.mpr (show t ≤ 1000000 ∧ (spanOf t i u s a b f).id ≤ 1000000 ∧ wI (spanOf t i u s a b f).up ≤ 1000001 ∧ (spanOf t i u s a b f).service ≤ 15 ∧ (spanOf t i u s a b f).to ≤ 1000000 ∧ (spanOf t i u s a b f).from_ < (spanOf t i u s a b f).to by
      rw [e1, e2, e3, e4, e5]
      omega)
    rw [e] at this
    cases this
  | true =>
    refine ⟨fun z => (by cases z), fun z => ?_⟩
    have := okSpan_iff.mp e
    rw [e1, e2, e3, e4, e5] at this
    omega
theorem ins_ne {C C' dx dx' : Addr} {fs gs : List (Str × V)} (h : fs.length ≠ gs.length) : HO.ins C dx fs ≠ HO.ins C' dx' gs := fun z => by
  cases z
  exact h rfl
theorem kvT_nd {ts : List TR} (h : (ts.map (·.n)).Nodup) : ((kvT ts).map (·.1)).Nodup := by
  have e : (kvT ts).map (·.1) = (ts.map (·.n)).map fun (n : Nat) => (Sum.inl (n : Int) : Key) := by
    unfold kvT
    rw [List.map_map, List.map_map]
    rfl
  rw [e]
  unfold List.Nodup at h ⊢
  rw [List.pairwise_map]
  exact h.imp fun q z => q (by have := Sum.inl.inj z; omega)
theorem kvT_val {ts : List TR} (h : (ts.map (·.n)).Nodup) {r : TR} (hr : r ∈ ts) : valV (kvT ts) (Sum.inl (r.n : Int)) = some (.ref r.a) := val_nodup (kvT_nd h) (Sum.inl (r.n : Int), .ref r.a) (List.mem_map.mpr ⟨r, hr, rfl⟩)
theorem kvT_no {ts : List TR} {t : Nat} (h : ∀ r ∈ ts, r.n ≠ t) : valV (kvT ts) (Sum.inl (t : Int)) = none := by
  cases q : valV (kvT ts) (Sum.inl (t : Int)) with
  | none => rfl
  | some v =>
    have := valV_in q
    obtain ⟨p, hp, e⟩ := List.mem_map.mp this
    obtain ⟨r, hr, rfl⟩ := List.mem_map.mp hp
    exact absurd (by have := Sum.inl.inj e; omega) (h r hr)
theorem kvS_no {es : List (Sq40.Span × Addr)} {i : Nat} (h : ∀ e ∈ es, e.1.id ≠ i) : valV (kvS es) (Sum.inl (i : Int)) = none := by
  cases q : valV (kvS es) (Sum.inl (i : Int)) with
  | none => rfl
  | some v =>
    have := valV_in q
    obtain ⟨p, hp, e⟩ := List.mem_map.mp this
    obtain ⟨r, hr, rfl⟩ := List.mem_map.mp hp
    exact absurd (by have := Sum.inl.inj e; omega) (h r hr)
theorem putK_same : ∀ {kvs : List (Key × V)} {k : Key} {v : V}, (kvs.map (·.1)).Nodup → valV kvs k = some v → putK kvs k v = kvs := fun {kvs k v} nd h => by
  have ha : (kvs.any fun kv => decide (kv.1 = k)) = true := by
    rw [valV_any, h]
    rfl
  unfold putK
  rw [if_pos ha]
  have : ∀ kv ∈ kvs, (if kv.1 = k then (kv.1, v) else kv) = kv := fun kv hk => by
    by_cases c : kv.1 = k
    · rw [if_pos c]
      have := val_nodup nd kv hk
      rw [c, h] at this
      rw [Option.some.inj this]
    · rw [if_neg c]
  calc kvs.map (fun kv => if kv.1 = k then (kv.1, v) else kv) = kvs.map id := List.map_congr_left this
    _ = kvs := List.map_id _
theorem tF_put (n h v hh : Int) (d : V) : putF "heard" (.int hh) [("number", .int n), ("spans", d), ("heard", .int h), ("verdict", .int v)] = ([("number", .int n), ("spans", d), ("heard", .int hh), ("verdict", .int v)] : List (Str × V)) := by kernel_rfl
section
variable {P : Program} {w : World} {K : PySem.W.Frag} {mg : Str → Option Value} {base : Heap} {C : Cl} {T : List (Addr × Str)}
theorem map_inj {α β : Type} {f : α → β} : ∀ {l : List α}, (l.map f).Nodup → ∀ {x y : α}, x ∈ l → y ∈ l → f x = f y → x = y
  | [], _, x, y, hx, _, _ => by cases hx
  | z :: l, nd, x, y, hx, hy, e => by
    rw [List.map_cons, List.nodup_cons] at nd
    rcases List.mem_cons.mp hx with e1 | hx <;> rcases List.mem_cons.mp hy with e2 | hy
    · rw [e1, e2]
    · exact absurd (List.mem_map.mpr ⟨y, hy, by rw [← e, e1]⟩) nd.1
    · exact absurd (List.mem_map.mpr ⟨x, hx, by rw [e, e2]⟩) nd.1
    · exact map_inj nd.2 hx hy e
theorem addOld_a (t now : Nat) (x : Sq40.Span) (p : Nat) (r : TR) : (addOld t now x p r).a = r.a := by
  unfold addOld
  split <;> rfl
theorem addOld_ds (t now : Nat) (x : Sq40.Span) (p : Nat) (r : TR) : (addOld t now x p r).ds = r.ds := by
  unfold addOld
  split <;> rfl
theorem _root_.LamX.TabS.keep {H H' : Hp} {P : Addr} {q : Str} (t : LamX.TabS H P q) (e : ∀ b o, H b = some o → (∀ C dx fs, o ≠ .ins C dx fs) → (∀ kvs, o ≠ .dK kvs) → H' b = some o) : LamX.TabS H' P q := by
  obtain ⟨ps, h1, h2, h3⟩ := t
  refine ⟨ps, e _ _ h1 (fun _ _ _ z => nomatch z) (fun _ z => nomatch z), h2, fun pos cv hc => ?_⟩
  obtain ⟨c, e1, e2⟩ := h3 pos cv hc
  exact ⟨c, e1, e _ _ e2 (fun _ _ _ z => by unfold LamX.CodeO at z; cases z) (fun _ z => by unfold LamX.CodeO at z; cases z)⟩
theorem house_old {H : Hp} {a dx dT p : Addr} {m : HM} {x : Sq40.Span} {r : TR} (ha : HouseAt C H a m dx dT) (hp : SpanAt C.S H p x) (hr : r ∈ m.ts) (nd : (m.ts.map (·.n)).Nodup) :
    HouseAt C (upd (upd (upd H r.ds (.dK (kvS (r.es ++ [(x, p)])))) r.a (.ins C.T r.dx (tF { r with es := r.es ++ [(x, p)], heard := m.now }))) dT (.dK (putK (kvT m.ts) (Sum.inl (r.n : Int)) (.ref r.a)))) a { m with ts := m.ts.map (addOld r.n m.now x p) } dx dT := by
  have okr := ha.trs r hr
  have epk : putK (kvT m.ts) (Sum.inl (r.n : Int)) (.ref r.a) = kvT (m.ts.map (addOld r.n m.now x p)) := by
    rw [putK_same (kvT_nd nd) (kvT_val nd hr)]
    unfold kvT
    rw [List.map_map]
    refine List.map_congr_left fun z _ => ?_
    show _ = ((Sum.inl ((addOld r.n m.now x p z).n : Int) : Key), V.ref (addOld r.n m.now x p z).a)
    rw [addOld_n, addOld_a]
  rw [epk]
  have ads : a ≠ r.ds := ne_of ha.ins okr.dict (by intro z; cases z)
  have adT : a ≠ dT := ne_of ha.ins ha.dict (by intro z; cases z)
  have raT : r.a ≠ dT := ne_of okr.ins ha.dict (by intro z; cases z)
  have sp : ∀ q y, SpanAt C.S H q y → SpanAt C.S (upd (upd (upd H r.ds (.dK (kvS (r.es ++ [(x, p)])))) r.a (.ins C.T r.dx (tF { r with es := r.es ++ [(x, p)], heard := m.now }))) dT (.dK (kvT (m.ts.map (addOld r.n m.now x p))))) q y := fun q y ⟨d, hq⟩ => by
    refine ⟨d, ?_⟩
    rw [upd_ne (ne_of hq ha.dict (by intro z; cases z)), upd_ne (ne_of hq okr.ins (ins_ne (by show 6 ≠ 4; decide))), upd_ne (ne_of hq okr.dict (by intro z; cases z))]
    exact hq
  refine ⟨?_, upd_same, fun z' hz' => ?_, ?_, ?_, fun z' hz' => ?_, fun z' hz' => ?_⟩
  · rw [upd_ne adT, upd_ne (ha.an r hr).symm, upd_ne ads]
    exact ha.ins
  · obtain ⟨z, hz, rfl⟩ := List.mem_map.mp hz'
    by_cases c : z.n = r.n
    · have : z = r := map_inj nd hz hr c
      subst this
      unfold addOld
      rw [if_pos rfl]
      refine ⟨(upd_ne raT).trans upd_same, ?_, fun e he => ?_⟩
      · show upd _ dT _ z.ds = _
        rw [upd_ne (ha.dn z hr), upd_ne okr.a_ne.symm, upd_same]
      · rcases List.mem_append.mp he with he | he
        · exact sp _ _ (okr.spans e he)
        · rw [List.mem_singleton.mp he]
          exact sp _ _ hp
    · have e : addOld r.n m.now x p z = z := by
        unfold addOld
        rw [if_neg c]
      rw [e]
      have okz := ha.trs z hz
      have n1 : z.a ≠ r.a := fun q => c (congrArg TR.n (map_inj ha.nda hz hr q))
      have n2 : z.ds ≠ r.ds := fun q => c (congrArg TR.n (map_inj ha.nds hz hr q))
      refine ⟨?_, ?_, fun e he => sp _ _ (okz.spans e he)⟩
      · rw [upd_ne (ne_of okz.ins ha.dict (by intro q; cases q)), upd_ne n1, upd_ne (ne_of okz.ins okr.dict (by intro q; cases q))]
        exact okz.ins
      · rw [upd_ne (ha.dn z hz), upd_ne (ne_of okz.dict okr.ins (by intro q; cases q)), upd_ne n2]
        exact okz.dict
  · show ((m.ts.map (addOld r.n m.now x p)).map (·.a)).Nodup
    rw [List.map_map]
    have : m.ts.map ((fun z : TR => z.a) ∘ addOld r.n m.now x p) = m.ts.map (·.a) := List.map_congr_left fun z _ => addOld_a _ _ _ _ z
    rw [this]
    exact ha.nda
  · show ((m.ts.map (addOld r.n m.now x p)).map (·.ds)).Nodup
    rw [List.map_map]
    have : m.ts.map ((fun z : TR => z.ds) ∘ addOld r.n m.now x p) = m.ts.map (·.ds) := List.map_congr_left fun z _ => addOld_ds _ _ _ _ z
    rw [this]
    exact ha.nds
  · obtain ⟨z, hz, rfl⟩ := List.mem_map.mp hz'
    rw [addOld_ds]
    exact ha.dn z hz
  · obtain ⟨z, hz, rfl⟩ := List.mem_map.mp hz'
    rw [addOld_a]
    exact ha.an z hz
theorem house_new {H : Hp} {a dx dT p aN dxN dsN t : Addr} {m : HM} {x : Sq40.Span} (ha : HouseAt C H a m dx dT) (hp : SpanAt C.S H p x) (i1 : H aN = some (.ins C.T dxN (tF0 t dsN))) (i2 : H dsN = some (.dK [])) (hno : ∀ r ∈ m.ts, r.n ≠ t)
    (na : ∀ r ∈ m.ts, r.a ≠ aN) (nds : ∀ r ∈ m.ts, r.ds ≠ dsN) (ndT : dsN ≠ dT) (nah : aN ≠ a) :
    HouseAt C (upd (upd (upd H dsN (.dK (kvS ([] ++ [(x, p)])))) aN (.ins C.T dxN (tF { (⟨aN, dxN, dsN, t, [], 0, 0⟩ : TR) with es := [] ++ [(x, p)], heard := m.now }))) dT (.dK (putK (kvT m.ts) (Sum.inl (t : Int)) (.ref aN)))) a { m with ts := m.ts ++ [⟨aN, dxN, dsN, t, [(x, p)], m.now, 0⟩] } dx dT := by
  have epk : putK (kvT m.ts) (Sum.inl (t : Int)) (.ref aN) = kvT (m.ts ++ [⟨aN, dxN, dsN, t, [(x, p)], m.now, 0⟩]) := by
    rw [putK_new _ (kvT_no hno)]
    unfold kvT
    rw [List.map_append]
    rfl
  rw [epk]
  have ads : a ≠ dsN := ne_of ha.ins i2 (by intro z; cases z)
  have adT : a ≠ dT := ne_of ha.ins ha.dict (by intro z; cases z)
  have naT : aN ≠ dT := ne_of i1 ha.dict (by intro z; cases z)
  have nads : aN ≠ dsN := ne_of i1 i2 (by intro z; cases z)
  have sp : ∀ q y, SpanAt C.S H q y → SpanAt C.S (upd (upd (upd H dsN (.dK (kvS ([] ++ [(x, p)])))) aN (.ins C.T dxN (tF { (⟨aN, dxN, dsN, t, [], 0, 0⟩ : TR) with es := [] ++ [(x, p)], heard := m.now }))) dT (.dK (kvT (m.ts ++ [⟨aN, dxN, dsN, t, [(x, p)], m.now, 0⟩])))) q y := fun q y ⟨d, hq⟩ => by
    refine ⟨d, ?_⟩
    rw [upd_ne (ne_of hq ha.dict (by intro z; cases z)), upd_ne (ne_of hq i1 (ins_ne (by show 6 ≠ 4; decide))), upd_ne (ne_of hq i2 (by intro z; cases z))]
    exact hq
  refine ⟨?_, upd_same, fun z hz => ?_, ?_, ?_, fun z hz => ?_, fun z hz => ?_⟩
  · rw [upd_ne adT, upd_ne nah.symm, upd_ne ads]
    exact ha.ins
  · rcases List.mem_append.mp hz with hz | hz
    · have okz := ha.trs z hz
      refine ⟨?_, ?_, fun e he => sp _ _ (okz.spans e he)⟩
      · rw [upd_ne (ne_of okz.ins ha.dict (by intro q; cases q)), upd_ne (na z hz), upd_ne (ne_of okz.ins i2 (by intro q; cases q))]
        exact okz.ins
      · rw [upd_ne (ha.dn z hz), upd_ne (ne_of okz.dict i1 (by intro q; cases q)), upd_ne (nds z hz)]
        exact okz.dict
    · rw [List.mem_singleton.mp hz]
      refine ⟨(upd_ne naT).trans upd_same, ?_, fun e he => ?_⟩
      · show upd _ dT _ dsN = _
        rw [upd_ne ndT, upd_ne nads.symm, upd_same]
        rfl
      · rw [List.mem_singleton.mp he]
        exact sp _ _ hp
  · show ((m.ts ++ [(_ : TR)]).map (·.a)).Nodup
    rw [List.map_append, List.nodup_append]
    refine ⟨ha.nda, by simp, fun u hu v hv z => ?_⟩
    obtain ⟨r, hr, e⟩ := List.mem_map.mp hu
    rw [List.map_cons, List.map_nil, List.mem_singleton] at hv
    exact na r hr (e.trans (z.trans hv))
  · show ((m.ts ++ [(_ : TR)]).map (·.ds)).Nodup
    rw [List.map_append, List.nodup_append]
    refine ⟨ha.nds, by simp, fun u hu v hv z => ?_⟩
    obtain ⟨r, hr, e⟩ := List.mem_map.mp hu
    rw [List.map_cons, List.map_nil, List.mem_singleton] at hv
    exact nds r hr (e.trans (z.trans hv))
  · rcases List.mem_append.mp hz with hz | hz
    · exact ha.dn z hz
    · rw [List.mem_singleton.mp hz]
      exact ndT
  · rcases List.mem_append.mp hz with hz | hz
    · exact ha.an z hz
    · rw [List.mem_singleton.mp hz]
      exact nah
def spSpan (C : Cl) (T : List (Addr × Str)) : Sp := fun vs H Q _ => ∃ (a p : Addr) (t i u s b e f : Nat), vs = [.ref a, .int t, .ref p] ∧ SpanAt C.S H p (spanOf t i u s b e f) ∧ Does C T (.span t i u s b e f) a H Q
theorem scSpan : FnScope ["self", "trace_number", "span", "trace"] ["self", "trace_number", "span"] (defScope sSpan) := ⟨rfl, rfl, rfl, by decide +kernel, rfl, by decide +kernel, by decide +kernel⟩
theorem ok_span {f fc ft ff fm : Addr} {fd fdc fdt fdf fdm : FuncData} (F : Fun K "span" "House.span" sSpan f fd) (TS : TxtS K mg C.S) (TT : TxtT K mg C.T) (TH : TxtH K mg C.H) (N : TxtN mg)
    (Gc : FnOk P w K mg base CX0 1 fc fdc ["trace_number", "span"] (spCanBe C)) (gc : mg "can_be" = some (.ref fc)) (kc : PySem.W.keepIn K (.ref fc) = true) (bc : Binds K fdc ["trace_number", "span"] [])
    (MT : Mk K C.T ft) (gT : mg "Trace" = some (.ref C.T)) (Gt : FnOk P w K mg base CX0 1 ft fdt ["self", "number"] (spTraceInit C)) (bt : Binds K fdt ["self", "number"] [])
    (Gf : FnOk P w K mg base CX0 1 ff fdf ["self"] (spFacts C)) (mf : Meth K C.S "facts" ff) (bf : Binds K fdf ["self"] [])
    (Gm : FnOk P w K mg base CX0 1 fm fdm ["self"] (spHowMany C)) (mm : Meth K C.H "how_many_spans" fm) (bm : Binds K fdm ["self"] []) :
    FnOk P w K mg base CX0 3 f fd ["self", "trace_number", "span"] (spSpan C T) := by
  obtain ⟨t1, e1⟩ := TH.cannot
  obtain ⟨t2, e2⟩ := TH.other
  obtain ⟨t3, e3⟩ := TH.most
  obtain ⟨t4, e4⟩ := TH.many
  refine F.ok scSpan (fun vs H Q E h => ?_) (fun cdv A outer s H vs Q E hr h => ?_)
  · obtain ⟨a, p, t, i, u, s, b, e, f, rfl, _⟩ := h
    rfl
  · have hu := hu_of hr
    have hr1 : Room 1 (A.deeper (envOfC "House.span" (defScope sSpan) s.heap.objs.size f cdv)) := hr.mono (by decide)
    refine ⟨_, pss_cons (ps_if (pt_not (pt_val (pe_call Gc hr1 rfl gc kc bc .nil pass0 (pa_cons (pv 1) (pa_cons (pv 2) pa_nil))))) (pss_one (ps_ret (pe_lst (pa_cons (pe_glob (v := .int (-1)) rfl e1 ⟨_, rfl⟩) pa_nil)))) pss_nil)
      (pss_cons (ps_set (i := 3) scSpan.nd rfl (Or.inl rfl) (pe_dget2 hu (pe_fld (pv 0) rfl) (pv 1) (pe_make MT Gt hr rfl gT bt .nil pass0 (pa_cons (pv 1) pa_nil)) ⟨rfl, rfl, rfl, rfl⟩))
      (pss_cons (ps_if (pt_cmp (pc_din hu (pe_fld (pv 2) rfl) (pe_fld (pv 3) rfl)))
        (pss_cons (ps_if (pt_cmpR (op_neD hr.units) (pe_meth0 (pe_dget hu (pe_fld (pv 3) rfl) (pe_fld (pv 2) rfl) (fun _ _ => rfl)) TS.cl mf Gf hr1 bf .nil pass0) (pe_meth0 (pv 2) TS.cl mf Gf hr1 bf .nil pass0) (nomark _)) (pss_one (ps_ret (pe_lst (pa_cons (pe_glob (v := .int (-4)) rfl e2 ⟨_, rfl⟩) pa_nil)))) pss_nil)
        (pss_one (ps_ret (pe_lst (pa_cons (pe_callB call_lenD (by rfl) N.len PySem.boot_len (pa_cons (pe_fld (pv 3) rfl) pa_nil)) pa_nil))))) pss_nil)
      (pss_cons (ps_if (pt_cmpR op_ge (pe_meth0 (pv 0) TH.cl mm Gm hr1 bm .nil pass0) (pe_glob (v := .int 60) rfl e3 ⟨_, rfl⟩) (nomark _)) (pss_one (ps_ret (pe_lst (pa_cons (pe_glob (v := .int (-5)) rfl e4 ⟨_, rfl⟩) pa_nil)))) pss_nil)
      (pss_cons (ps_dput hu (pe_fld (pv 3) rfl) (pe_fld (pv 2) rfl) (pv 2) rfl)
      (pss_cons (ps_fld (pv 3) (pe_fld (pv 0) rfl) rfl)
      (pss_cons (ps_dput hu (pe_fld (pv 0) rfl) (pv 1) (pv 3) rfl)
      (pss_one (ps_ret (pe_lst (pa_cons (pe_callB call_lenD (by rfl) N.len PySem.boot_len (pa_cons (pe_fld (pv 3) rfl) pa_nil)) pa_nil)))))))))), ?_⟩
    obtain ⟨a, p, t, i, u, s, b, e, f, rfl, hsp, m, h, dx, dT, ha, R, tabs, k⟩ := h
    refine ⟨_, rfl, _, rfl, t, p, _, rfl, hsp, _, rfl, ?_⟩
    cases ck : okSpan t (spanOf t i u s b e f) with
    | false => exact iteT ⟨by show 1 ≤ sizeLine; decide, fun q hq => Does.refuse ha R tabs k (step_span_bad (okSpan_bad.mp ck)) (Same.refl H) hq⟩
    | true =>
    refine iteF ?_
    have good : ¬ (1000000 < t ∨ 1000000 < i ∨ 1000001 < u ∨ 16 ≤ s ∨ 1000000 < e ∨ e ≤ b) := fun z => by
      rw [okSpan_bad.mpr z] at ck
      cases ck
    have st := step_span_ok (h := h) (f := f) good
    refine ⟨_, rfl, a, C.H, dx, _, _, rfl, ha.ins, TH.cl, TH.nTraces, hF_traces m dT, dT, rfl, .inl ⟨_, .inl ha.dict⟩, _, rfl, _, rfl, ?_⟩
    intro aN dxN nN ndN neN
    refine ⟨aN, dxN, t, rfl, upd_same, fun H1 dsN i1 i2 i3 i4 => ⟨rfl, ?_⟩⟩
    have s1 : Same H H1 := Same.made nN ndN i4
    have ha1 := ha.same s1
    refine ⟨_, DGet.k (k := Sum.inl (t : Int)) ha1.dict, ?_⟩
    obtain ⟨r0, okr, rn, n1, n2, pr, gv, fin⟩ : ∃ r0 : TR, TRok C.S C.T H1 r0 ∧ r0.n = t ∧ r0.a ≠ a ∧ r0.ds ≠ dT ∧ (r0.es.map (·.1)).Perm (h.of_ t) ∧ (valV (kvT m.ts) (Sum.inl (t : Int))).getD (.ref aN) = .ref r0.a ∧
        ∀ H2, Same H1 H2 → h.spans.length < 60 → (∀ y ∈ h.of_ t, y.id ≠ i) → ∃ m' : HM, HouseAt C (upd (upd (upd H2 r0.ds (.dK (kvS (r0.es ++ [(spanOf t i u s b e f, p)])))) r0.a (.ins C.T r0.dx (tF { r0 with es := r0.es ++ [(spanOf t i u s b e f, p)], heard := m.now }))) dT (.dK (putK (kvT m.ts) (Sum.inl (t : Int)) (.ref r0.a)))) a m' dx dT ∧
          Rel m' { h with spans := Sq40.enter (spanOf t i u s b e f) h.spans, heard := Sq40.put (t, h.now) h.heard } := by
      have hv : (spanOf t i u s b e f).from_ < (spanOf t i u s b e f).to ∧ (spanOf t i u s b e f).to ≤ 1000000 ∧ (spanOf t i u s b e f).service < 16 := by
        show b < e ∧ e ≤ 1000000 ∧ s < 16
        omega
      by_cases ex : ∃ r ∈ m.ts, r.n = t
      · obtain ⟨r, hrm, rfl⟩ := ex
        refine ⟨r, ha1.trs r hrm, rfl, ha.an r hrm, ha.dn r hrm, R.perm r hrm, by rw [kvT_val R.nd hrm]; rfl, fun H2 s2 hm hno => ⟨_, ?_, rel_old R hrm (p := p) rfl hv hno hm⟩⟩
        exact house_old (ha1.same s2) (hsp.same (s1.trans s2)) hrm R.nd
      · have hno : ∀ r ∈ m.ts, r.n ≠ t := fun r hr z => ex ⟨r, hr, z⟩
        have h0 := R.none hno
        have old : ∀ b o, H b = some o → b ≠ dsN := fun b o q z => by
          have : upd (upd H dxN (.own aN)) aN (.ins C.T dxN []) dsN = some o := by
            rw [z] at q
            rw [upd_ne (ne_of_none q nN), upd_ne (ne_of_none q ndN)]
            exact q
          rw [i3] at this
          cases this
        have na : aN ≠ a := (ne_of_none ha.ins nN).symm
        have nd : dsN ≠ dT := (old _ _ ha.dict).symm
        refine ⟨⟨aN, dxN, dsN, t, [], 0, 0⟩, ⟨i1, i2, fun _ z => (by cases z)⟩, rfl, na, nd, by rw [h0]; exact List.Perm.refl _, by rw [kvT_no hno]; rfl, fun H2 s2 hm _ => ⟨_, ?_, rel_new R (a := aN) (dx := dxN) (ds := dsN) (p := p) rfl hv hno hm⟩⟩
        exact house_new (ha1.same s2) (hsp.same (s1.trans s2)) (s2 _ _ i1) (s2 _ _ i2) hno (fun r hr => ne_of_none (ha.trs r hr).ins nN) (fun r hr => old _ _ (ha.trs r hr).dict) nd na
    rw [gv]
    obtain ⟨dxp, hsp1⟩ := hsp.same s1
    refine ⟨_, rfl, p, C.S, dxp, _, _, rfl, hsp1, TS.cl, TS.nNumber, sF_number _, _, rfl, r0.a, C.T, r0.dx, _, _, rfl, okr.ins, TT.cl, TT.nSpans, tF_spans r0, r0.ds, _, rfl, DGet.k (k := Sum.inl (i : Int)) okr.dict, _, rfl, ?_⟩
    have srt := R.lex.srt t
    have nd0 : (r0.es.map fun e => (e.1.id : Int)).Nodup := (⟨srt, pr, fun y hy => R.val y (mem_ofTrace.mp hy).1, Nat.le_trans of_len R.most⟩ : Pure r0.es (h.of_ t)).nd
    by_cases ex : ∃ e0 ∈ r0.es, e0.1.id = i
    · obtain ⟨e0, he0, hi0⟩ := ex
      have y0 : e0.1 ∈ h.of_ t := pr.mem_iff.mp (List.mem_map.mpr ⟨e0, he0, rfl⟩)
      have fnd : (h.of_ t).find? (fun z => z.id == e0.1.id) = some e0.1 := find_some srt y0
      rw [hi0] at fnd
      rw [fnd] at st
      have vv : valV (kvS r0.es) (Sum.inl (i : Int)) = some (.ref e0.2) := by
        rw [← hi0]
        exact (⟨srt, pr, fun y hy => R.val y (mem_ofTrace.mp hy).1, Nat.le_trans of_len R.most⟩ : Pure r0.es (h.of_ t)).valV he0
      have dg := DGet.k (k := Sum.inl (i : Int)) okr.dict
      rw [vv] at dg
      rw [vv]
      obtain ⟨dx0, hs0⟩ := okr.spans e0 he0
      refine iteT ⟨_, rfl, r0.a, C.T, r0.dx, _, _, rfl, okr.ins, TT.cl, TT.nSpans, tF_spans r0, _, rfl, p, C.S, dxp, _, _, rfl, hsp1, TS.cl, TS.nNumber, sF_number _, r0.ds, _, rfl, dg, e0.2, dx0, _, rfl, hs0, sF_facts _, e0.2, e0.1, rfl, ⟨dx0, hs0⟩, fun q1 hq1 => ?_⟩
      have u1 := sameUpd (o := .tup (fctV e0.1)) hq1
      refine ⟨_, rfl, p, dxp, _, rfl, u1 _ _ hsp1, sF_facts _, p, _, rfl, ⟨dxp, u1 _ _ hsp1⟩, fun q2 hq2 => ?_⟩
      have u2 := sameUpd (o := .tup (fctV (spanOf t i u s b e f))) hq2
      refine ⟨_, _, fctD_dp (u2 _ _ upd_same), fctD_dp upd_same, fctD_shaped _, fctD_shaped _, _, rfl, ?_⟩
      rw [fctD_eqv (show e0.1.trace = (spanOf t i u s b e f).trace from (mem_ofTrace.mp y0).2)]
      have s3 := (s1.trans u1).trans u2
      by_cases ceq : e0.1 = spanOf t i u s b e f
      · rw [decide_eq_true ceq]
        have okr2 := (okr.same u1).same u2
        refine iteF ⟨_, rfl, r0.a, C.T, r0.dx, _, _, rfl, okr2.ins, TT.cl, TT.nSpans, tF_spans r0, r0.ds, _, rfl, okr2.dict, by show 1 ≤ sizeLine; decide, fun q hq => ?_⟩
        have el : ((kvS r0.es).length : Int) = ((h.of_ t).length : Int) := by
          unfold kvS
          rw [List.length_map, ← pr.length_eq, List.length_map]
        rw [el]
        exact Does.refuse ha R tabs k (by rw [st]; exact if_pos ceq) s3 hq
      · rw [decide_eq_false ceq]
        exact iteT ⟨by show 1 ≤ sizeLine; decide, fun q hq => Does.refuse ha R tabs k (by rw [st]; exact if_neg ceq) s3 hq⟩
    · have hne : ∀ e0 ∈ r0.es, e0.1.id ≠ i := fun e0 h0 z => ex ⟨e0, h0, z⟩
      have hno : ∀ y ∈ h.of_ t, y.id ≠ i := fun y hy => by
        obtain ⟨e0, h0, rfl⟩ := List.mem_map.mp (pr.mem_iff.mpr hy)
        exact hne e0 h0
      rw [find_none hno] at st
      have vn := kvS_no hne
      rw [vn]
      refine iteF ⟨_, rfl, a, dx, _, rfl, ha1.ins, hF_none m dT (by decide +kernel), a, dx, dT, m, rfl, ha1, R.few, fun H2 s2 => ⟨_, _, rfl, rfl, _, rfl, ?_⟩⟩
      rw [← R.cnt]
      by_cases cf : (60 : Int) ≤ ((h.spans.length : Nat) : Int)
      · rw [decide_eq_true cf]
        exact iteT ⟨by show 1 ≤ sizeLine; decide, fun q hq => Does.refuse ha R tabs k (by rw [st]; exact if_pos (show 60 ≤ h.spans.length by omega)) (s1.trans s2) hq⟩
      rw [decide_eq_false cf]
      refine iteF ?_
      have cf' : h.spans.length < 60 := by omega
      have st' : h.step (.span t i u s b e f) = ({ h with spans := Sq40.enter (spanOf t i u s b e f) h.spans, heard := Sq40.put (t, h.now) h.heard }, Sq40.says (Sq40.ofTrace (Sq40.enter (spanOf t i u s b e f) h.spans) t).length) := by
        rw [st]
        exact if_neg (by omega)
      obtain ⟨m', hh, RR⟩ := fin H2 s2 cf' hno
      have okr2 := okr.same s2
      have hsp2 := s2 _ _ hsp1
      have ha2 := ha1.same s2
      have few0 : (kvS r0.es).length < sizeLine := by
        have : (kvS r0.es).length ≤ 60 := by
          unfold kvS
          rw [List.length_map]
          have := pr.length_eq
          rw [List.length_map] at this
          rw [this]
          exact Nat.le_trans of_len R.most
        exact Nat.lt_of_le_of_lt this (by decide)
      refine ⟨_, rfl, _, rfl, r0.a, C.T, r0.dx, _, _, rfl, okr2.ins, TT.cl, TT.nSpans, tF_spans r0, _, rfl, p, C.S, dxp, _, _, rfl, hsp2, TS.cl, TS.nNumber, sF_number _, r0.ds, _, rfl, DPut.k (k := Sum.inl (i : Int)) okr2.dict few0, ?_⟩
      have epk : putK (kvS r0.es) (Sum.inl (i : Int)) (.ref p) = kvS (r0.es ++ [(spanOf t i u s b e f, p)]) := by
        rw [putK_new _ vn]
        unfold kvS
        rw [List.map_append]
        rfl
      rw [epk]
      have ads : a ≠ r0.ds := ne_of ha2.ins okr2.dict (by intro z; cases z)
      have aTd : dT ≠ r0.a := (ne_of okr2.ins ha2.dict (by intro z; cases z)).symm
      have ra : r0.a ≠ r0.ds := okr2.a_ne
      have g1 : upd H2 r0.ds (.dK (kvS (r0.es ++ [(spanOf t i u s b e f, p)]))) a = some (.ins C.H dx (hF m dT)) := (upd_ne ads).trans ha2.ins
      have g2 : upd H2 r0.ds (.dK (kvS (r0.es ++ [(spanOf t i u s b e f, p)]))) r0.a = some (.ins C.T r0.dx (tF r0)) := (upd_ne ra).trans okr2.ins
      refine ⟨_, rfl, a, C.H, dx, _, _, rfl, g1, TH.cl, TH.nNow, hF_now m dT, _, rfl, r0.a, C.T, r0.dx, _, rfl, g2, TT.cl, TT.nHeard, by show 4 < 1000; decide, ?_⟩
      have ehd : putF "heard" (.int m.now) (tF r0) = tF { r0 with es := r0.es ++ [(spanOf t i u s b e f, p)], heard := m.now } := tF_put r0.n r0.heard r0.verdict m.now (.ref r0.ds)
      rw [ehd]
      have g3 : upd (upd H2 r0.ds (.dK (kvS (r0.es ++ [(spanOf t i u s b e f, p)])))) r0.a (.ins C.T r0.dx (tF { r0 with es := r0.es ++ [(spanOf t i u s b e f, p)], heard := m.now })) a = some (.ins C.H dx (hF m dT)) := (upd_ne n1.symm).trans g1
      have g4 : upd (upd H2 r0.ds (.dK (kvS (r0.es ++ [(spanOf t i u s b e f, p)])))) r0.a (.ins C.T r0.dx (tF { r0 with es := r0.es ++ [(spanOf t i u s b e f, p)], heard := m.now })) dT = some (.dK (kvT m.ts)) := (upd_ne aTd).trans ((upd_ne n2.symm).trans ha2.dict)
      have few1 : (kvT m.ts).length < sizeLine := by
        unfold kvT
        rw [List.length_map]
        exact Nat.lt_of_le_of_lt R.few (by decide)
      refine ⟨_, rfl, _, rfl, a, C.H, dx, _, _, rfl, g3, TH.cl, TH.nTraces, hF_traces m dT, _, rfl, dT, _, rfl, DPut.k (k := Sum.inl (t : Int)) g4 few1, ?_⟩
      have g5 : upd (upd (upd H2 r0.ds (.dK (kvS (r0.es ++ [(spanOf t i u s b e f, p)])))) r0.a (.ins C.T r0.dx (tF { r0 with es := r0.es ++ [(spanOf t i u s b e f, p)], heard := m.now }))) dT (.dK (putK (kvT m.ts) (Sum.inl (t : Int)) (.ref r0.a))) r0.a = some (.ins C.T r0.dx (tF { r0 with es := r0.es ++ [(spanOf t i u s b e f, p)], heard := m.now })) := (upd_ne aTd.symm).trans upd_same
      have g6 : upd (upd (upd H2 r0.ds (.dK (kvS (r0.es ++ [(spanOf t i u s b e f, p)])))) r0.a (.ins C.T r0.dx (tF { r0 with es := r0.es ++ [(spanOf t i u s b e f, p)], heard := m.now }))) dT (.dK (putK (kvT m.ts) (Sum.inl (t : Int)) (.ref r0.a))) r0.ds = some (.dK (kvS (r0.es ++ [(spanOf t i u s b e f, p)]))) := (upd_ne n2).trans ((upd_ne ra.symm).trans upd_same)
      have s12 := s1.trans s2
      have kp : ∀ b' o, H b' = some o → mutO o = false → upd (upd (upd H2 r0.ds (.dK (kvS (r0.es ++ [(spanOf t i u s b e f, p)])))) r0.a (.ins C.T r0.dx (tF { r0 with es := r0.es ++ [(spanOf t i u s b e f, p)], heard := m.now }))) dT (.dK (putK (kvT m.ts) (Sum.inl (t : Int)) (.ref r0.a))) b' = some o := fun b' o hb hm => by
        have hb2 := s12 _ _ hb
        have m1 : b' ≠ r0.ds := ne_of hb2 okr2.dict (by intro z; rw [z] at hm; cases hm)
        have m2 : b' ≠ r0.a := ne_of hb2 okr2.ins (by intro z; rw [z] at hm; cases hm)
        have m3 : b' ≠ dT := ne_of hb2 ha2.dict (by intro z; rw [z] at hm; cases hm)
        rw [upd_ne m3, upd_ne m2, upd_ne m1]
        exact hb2
      have dom : ∀ y, upd (upd (upd H2 r0.ds (.dK (kvS (r0.es ++ [(spanOf t i u s b e f, p)])))) r0.a (.ins C.T r0.dx (tF { r0 with es := r0.es ++ [(spanOf t i u s b e f, p)], heard := m.now }))) dT (.dK (putK (kvT m.ts) (Sum.inl (t : Int)) (.ref r0.a))) y = none → H y = none := fun y hy => by
        refine s12.free ?_
        by_cases z1 : y = dT
        · rw [z1, upd_same] at hy
          cases hy
        rw [upd_ne z1] at hy
        by_cases z2 : y = r0.a
        · rw [z2, upd_same] at hy
          cases hy
        rw [upd_ne z2] at hy
        by_cases z3 : y = r0.ds
        · rw [z3, upd_same] at hy
          cases hy
        rw [upd_ne z3] at hy
        exact hy
      have tb2 := tabs.ext s12
      have tb3 : LamX.Tabs T (upd (upd (upd H2 r0.ds (.dK (kvS (r0.es ++ [(spanOf t i u s b e f, p)])))) r0.a (.ins C.T r0.dx (tF { r0 with es := r0.es ++ [(spanOf t i u s b e f, p)], heard := m.now }))) dT (.dK (putK (kvT m.ts) (Sum.inl (t : Int)) (.ref r0.a)))) := fun q hq => (tb2 q hq).keep fun b' o hb h1 h2 => by
        have m1 : b' ≠ r0.ds := ne_of hb okr2.dict (by intro z; exact h2 _ z)
        have m2 : b' ≠ r0.a := ne_of hb okr2.ins (by intro z; exact h1 _ _ _ z)
        have m3 : b' ≠ dT := ne_of hb ha2.dict (by intro z; exact h2 _ z)
        rw [upd_ne m3, upd_ne m2, upd_ne m1]
        exact hb
      generalize upd (upd (upd H2 r0.ds (.dK (kvS (r0.es ++ [(spanOf t i u s b e f, p)])))) r0.a (.ins C.T r0.dx (tF { r0 with es := r0.es ++ [(spanOf t i u s b e f, p)], heard := m.now }))) dT (.dK (putK (kvT m.ts) (Sum.inl (t : Int)) (.ref r0.a))) = H5 at hh g5 g6 kp tb3 dom
      refine ⟨_, rfl, r0.a, C.T, r0.dx, _, _, rfl, g5, TT.cl, TT.nSpans, tF_spans _, r0.ds, _, rfl, g6, by show 1 ≤ sizeLine; decide, fun q hq => ?_⟩
      have sq := sameUpd (o := .lst [.int ((kvS (r0.es ++ [(spanOf t i u s b e f, p)])).length : Nat)]) hq
      refine k _ q m' dx dT (hh.same sq) (by rw [st']; exact RR) (tb3.ext sq) (fun b' o hb hm => sq _ _ (kp b' o hb hm)) (NL.of (dom q hq)) ?_
      rw [upd_same, st']
      have el : (kvS (r0.es ++ [(spanOf t i u s b e f, p)])).length = (Sq40.ofTrace (Sq40.enter (spanOf t i u s b e f) h.spans) t).length := by
        have own := (ofTrace_own (x := spanOf t i u s b e f) (l := h.spans)).length_eq
        have l1 := pr.length_eq
        unfold kvS
        rw [List.length_map, List.length_append]
        rw [List.length_map] at l1
        show r0.es.length + 1 = (Sq40.ofTrace (Sq40.enter (spanOf t i u s b e f) h.spans) (spanOf t i u s b e f).trace).length
        rw [own, List.length_cons, l1]
        rfl
      rw [el]
      rfl
end
end Tr
namespace Tr
open PySem PySem.Spec PyProof.Rows L2
abbrev sTick : Stmt := inClass (top 48) 6
abbrev sIsDue : Stmt := inClass (top 48) 7
abbrev sJudged : Stmt := inClass (top 48) 8
section
variable {P : Program} {w : World} {K : PySem.W.Frag} {mg : Str → Option Value} {base : Heap} {C : Cl} {T : List (Addr × Str)}
def spIsDue (C : Cl) : Sp := fun vs H Q _ => ∃ (a dx dT : Addr) (m : HM) (r : TR), vs = [.ref a, .ref r.a] ∧ H a = some (.ins C.H dx (hF m dT)) ∧ H r.a = some (.ins C.T r.dx (tF r)) ∧ Q (.bl (isDue m m.now r)) H
theorem scIsDue : FnScope ["self", "trace"] ["self", "trace"] (defScope sIsDue) := ⟨rfl, rfl, rfl, by decide +kernel, rfl, by decide +kernel, by decide +kernel⟩
theorem ok_isDue {f : Addr} {fd : FuncData} (F : Fun K "is_due" "House.is_due" sIsDue f fd) (TT : TxtT K mg C.T) (TH : TxtH K mg C.H) :
    FnOk P w K mg base CX0 1 f fd ["self", "trace"] (spIsDue C) := by
  obtain ⟨t1, e1⟩ := TH.undec
  refine F.ok scIsDue (fun vs H Q E h => ?_) (fun cdv A outer s H vs Q E hr h => ?_)
  · obtain ⟨a, dx, dT, m, r, rfl, _⟩ := h
    rfl
  · refine ⟨_, pss_one (ps_ret (pe_and (pe_cmpR op_eq (pe_fld (pv 1) rfl) (pe_glob (v := .int 0) rfl e1 ⟨_, rfl⟩) (nomark _)) (pe_one (pe_cmpR op_ge (pe_op op_sub (pe_fld (pv 0) rfl) (pe_fld (pv 1) rfl)) (pe_fld (pv 0) rfl) (nomark _))))), ?_⟩
    obtain ⟨a, dx, dT, m, r, rfl, h1, h2, k⟩ := h
    refine ⟨_, rfl, r.a, C.T, r.dx, _, _, rfl, h2, TT.cl, TT.nVerdict, tF_verdict r, rfl, _, rfl, ?_⟩
    have ev : decide (V.int (r.verdict : Int) = V.int 0) = (r.verdict == 0) := by
      by_cases c : r.verdict = 0
      · rw [c]
        rfl
      · rw [decide_eq_false (fun z => c (by have := V.int.inj z; omega))]
        symm
        simpa using c
    rw [ev]
    cases c : r.verdict == 0 with
    | false =>
      refine iteF ?_
      have e : isDue m m.now r = false := by
        unfold isDue
        rw [c]
        rfl
      rw [e] at k
      exact k
    | true =>
      refine iteT ⟨_, rfl, a, C.H, dx, _, _, rfl, h1, TH.cl, TH.nNow, hF_now m dT, _, rfl, r.a, C.T, r.dx, _, _, rfl, h2, TT.cl, TT.nHeard, tF_heard r, _, _, rfl, rfl, _, rfl, a, C.H, dx, _, _, rfl, h1, TH.cl, TH.nQuiet, hF_quiet m dT, _, _, rfl, rfl, ?_⟩
      have e : isDue m m.now r = decide ((m.quiet : Int) ≤ (m.now : Int) - (r.heard : Int)) := by
        unfold isDue
        rw [c, Bool.true_and]
        by_cases d : r.heard + m.quiet ≤ m.now
        · rw [decide_eq_true d, decide_eq_true (by omega)]
        · rw [decide_eq_false d, decide_eq_false (by omega)]
      rw [e] at k
      exact k
def spJudged (C : Cl) : Sp := fun vs H Q _ => ∃ (a dx dT : Addr) (m : HM) (r : TR) (l : List Sq40.Span), vs = [.ref a, .ref r.a] ∧ H a = some (.ins C.H dx (hF m dT)) ∧ TRok C.S C.T H r ∧ Pure r.es l ∧ l ≠ [] ∧ 0 < m.each ∧
  ∀ H', Same H H' → Q (.int (if judge m l r.n = true then 1 else 2)) H'
theorem scJudged : FnScope ["self", "trace"] ["self", "trace"] (defScope sJudged) := ⟨rfl, rfl, rfl, by decide +kernel, rfl, by decide +kernel, by decide +kernel⟩
theorem ok_judged {f f1 f2 : Addr} {fd fd1 fd2 : FuncData} (F : Fun K "judged" "House.judged" sJudged f fd) (TT : TxtT K mg C.T) (TH : TxtH K mg C.H)
    (G1 : FnOk P w K mg base CX0 1 f1 fd1 ["self"] (spHasFailure C.S C.T)) (m1 : Meth K C.T "has_failure" f1) (b1 : Binds K fd1 ["self"] [])
    (G2 : FnOk P w K mg base CX0 1 f2 fd2 ["self"] (spLength C.S C.T)) (m2 : Meth K C.T "length" f2) (b2 : Binds K fd2 ["self"] []) :
    FnOk P w K mg base CX0 2 f fd ["self", "trace"] (spJudged C) := by
  obtain ⟨t1, e1⟩ := TH.kept
  obtain ⟨t2, e2⟩ := TH.dropped
  refine F.ok scJudged (fun vs H Q E h => ?_) (fun cdv A outer s H vs Q E hr h => ?_)
  · obtain ⟨a, dx, dT, m, r, l, rfl, _⟩ := h
    rfl
  · refine ⟨_, pss_cons (ps_if (PW.pt (pw_or (pt_val (pe_meth0 (pv 1) TT.cl m1 G1 hr b1 .nil pass0)) (pw_or (pt_cmpR op_ge (pe_meth0 (pv 1) TT.cl m2 G2 hr b2 .nil pass0) (pe_fld (pv 0) rfl) (nomark _)) (pw_or1 (pt_cmpR op_eq (pe_op op_mod (pe_fld (pv 1) rfl) (pe_fld (pv 0) rfl)) pe_int (nomark _))))))
        (pss_one (ps_ret (pe_glob (v := .int 1) rfl e1 ⟨_, rfl⟩))) pss_nil) (pss_one (ps_ret (pe_glob (v := .int 2) rfl e2 ⟨_, rfl⟩))), ?_⟩
    obtain ⟨a, dx, dT, m, r, l, rfl, h1, ok, pu, hne, hpos, k⟩ := h
    refine ⟨_, rfl, r.a, r.dx, _, rfl, ok.ins, tF_none r (by decide +kernel), r, l, rfl, ok, pu, fun H1 s1 => ⟨_, rfl, ?_⟩⟩
    have yes : ∀ H', Same H H' → judge m l r.n = true → Q (.int 1) H' := fun H' s' j => by
      have := k H' s'
      rw [if_pos j] at this
      exact this
    have no : ∀ H', Same H H' → judge m l r.n = false → Q (.int 2) H' := fun H' s' j => by
      have := k H' s'
      rw [if_neg (by rw [j]; decide)] at this
      exact this
    cases c1 : l.any fun x => x.failed with
    | true =>
      refine iteT (iteT (yes H1 s1 ?_))
      unfold judge
      rw [c1]
      rfl
    | false =>
      have ok1 := ok.same s1
      refine iteF ⟨_, rfl, r.a, r.dx, _, rfl, ok1.ins, tF_none r (by decide +kernel), r, l, rfl, ok1, pu, hne, fun H2 s2 => ?_⟩
      have i2 := s2 _ _ (s1 _ _ h1)
      refine ⟨_, rfl, a, C.H, dx, _, _, rfl, i2, TH.cl, TH.nSlow, hF_slow m dT, _, _, rfl, rfl, _, rfl, ?_⟩
      have s12 := s1.trans s2
      by_cases c2 : (m.slow : Int) ≤ (Sq40.long l : Int)
      · rw [decide_eq_true c2]
        refine iteT (iteT (yes H2 s12 ?_))
        unfold judge
        rw [c1, decide_eq_true (show m.slow ≤ Sq40.long l by omega)]
        rfl
      · rw [decide_eq_false c2]
        have ok2 := ok1.same s2
        refine iteF ⟨_, rfl, r.a, C.T, r.dx, _, _, rfl, ok2.ins, TT.cl, TT.nNumber, tF_number r, _, rfl, a, C.H, dx, _, _, rfl, i2, TH.cl, TH.nEach, hF_each m dT, _, _, rfl, rfl, by show (0 : Int) < (m.each : Int); omega, rfl, _, rfl, ?_⟩
        have em : decide (V.int ((r.n : Int) % (m.each : Int)) = V.int 0) = (r.n % m.each == 0) := by
          by_cases d : r.n % m.each = 0
          · rw [d]
            exact decide_eq_true (by congr 1; omega)
          · rw [decide_eq_false (fun z => d (by have := V.int.inj z; omega))]
            symm
            simpa using d
        show (if decide (V.int ((r.n : Int) % (m.each : Int)) = V.int 0) = true then _ else _)
        rw [em]
        have jj : judge m l r.n = (r.n % m.each == 0) := by
          unfold judge
          rw [c1, decide_eq_false (show ¬ m.slow ≤ Sq40.long l by omega)]
          rfl
        cases c3 : r.n % m.each == 0 with
        | true => exact iteT (yes H2 s12 (jj.trans c3))
        | false => exact iteF (no H2 s12 (jj.trans c3))
/-! ### a verdict -/
def setV (t v : Nat) (z : TR) : TR := if z.n = t then { z with verdict := v } else z
theorem setV_a (t v : Nat) (z : TR) : (setV t v z).a = z.a := by
  unfold setV
  split <;> rfl
theorem setV_ds (t v : Nat) (z : TR) : (setV t v z).ds = z.ds := by
  unfold setV
  split <;> rfl
theorem setV_n (t v : Nat) (z : TR) : (setV t v z).n = z.n := by
  unfold setV
  split <;> rfl
theorem setV_es (t v : Nat) (z : TR) : (setV t v z).es = z.es := by
  unfold setV
  split <;> rfl
theorem house_verdict {H : Hp} {a dx dT : Addr} {m : HM} {r : TR} {v : Nat} (ha : HouseAt C H a m dx dT) (hr : r ∈ m.ts) (nd : (m.ts.map (·.n)).Nodup) :
    HouseAt C (upd H r.a (.ins C.T r.dx (tF { r with verdict := v }))) a { m with ts := m.ts.map (setV r.n v) } dx dT := by
  have okr := ha.trs r hr
  have ekv : kvT (m.ts.map (setV r.n v)) = kvT m.ts := by
    unfold kvT
    rw [List.map_map]
    refine List.map_congr_left fun z _ => ?_
    show ((Sum.inl ((setV r.n v z).n : Int) : Key), V.ref (setV r.n v z).a) = _
    rw [setV_n, setV_a]
  have sp : ∀ q y, SpanAt C.S H q y → SpanAt C.S (upd H r.a (.ins C.T r.dx (tF { r with verdict := v }))) q y := fun q y ⟨d, hq⟩ => by
    refine ⟨d, ?_⟩
    rw [upd_ne (ne_of hq okr.ins (ins_ne (by show 6 ≠ 4; decide)))]
    exact hq
  refine ⟨?_, ?_, fun z' hz' => ?_, ?_, ?_, fun z' hz' => ?_, fun z' hz' => ?_⟩
  · rw [upd_ne (ha.an r hr).symm]
    exact ha.ins
  · rw [upd_ne (ne_of ha.dict okr.ins (by intro z; cases z)), ekv]
    exact ha.dict
  · obtain ⟨z, hz, rfl⟩ := List.mem_map.mp hz'
    have okz := ha.trs z hz
    by_cases c : z.n = r.n
    · have : z = r := map_inj nd hz hr c
      subst this
      unfold setV
      rw [if_pos rfl]
      refine ⟨upd_same, ?_, fun e he => sp _ _ (okr.spans e he)⟩
      show upd _ z.a _ z.ds = _
      rw [upd_ne okr.a_ne.symm]
      exact okr.dict
    · have e : setV r.n v z = z := by
        unfold setV
        rw [if_neg c]
      rw [e]
      have n1 : z.a ≠ r.a := fun q => c (congrArg TR.n (map_inj ha.nda hz hr q))
      refine ⟨?_, ?_, fun e he => sp _ _ (okz.spans e he)⟩
      · rw [upd_ne n1]
        exact okz.ins
      · rw [upd_ne (ne_of okz.dict okr.ins (by intro q; cases q))]
        exact okz.dict
  · show ((m.ts.map (setV r.n v)).map (·.a)).Nodup
    rw [List.map_map]
    have : m.ts.map ((fun z : TR => z.a) ∘ setV r.n v) = m.ts.map (·.a) := List.map_congr_left fun z _ => setV_a _ _ z
    rw [this]
    exact ha.nda
  · show ((m.ts.map (setV r.n v)).map (·.ds)).Nodup
    rw [List.map_map]
    have : m.ts.map ((fun z : TR => z.ds) ∘ setV r.n v) = m.ts.map (·.ds) := List.map_congr_left fun z _ => setV_ds _ _ z
    rw [this]
    exact ha.nds
  · obtain ⟨z, hz, rfl⟩ := List.mem_map.mp hz'
    rw [setV_ds]
    exact ha.dn z hz
  · obtain ⟨z, hz, rfl⟩ := List.mem_map.mp hz'
    rw [setV_a]
    exact ha.an z hz
end
end Tr
/-! # xs.extend(a tuple) -/
namespace Tr
open PySem PySem.Spec PyProof.Rows L2
section
open PySem.SeqAt
open PySem.AutoSeq1 (wpAny_loadPart')
open PySem.MeetsSeq PySem.MeetsSeq2 PySem.MeetsSeq3
open PySem.AutoSeq1
theorem extend_tuple (l : Addr) (items : Array Value) (n : Nat) (b : Addr) (items2 : Array Value) (n2 : Nat) (dd : Option Addr) (sl : Array (Option Value)) (hs0 : ¬(!items.isEmpty && Builtin.List.listTooLong (items.size + items2.size)) = true) (hs1 : items.size ≤ sizeLine) (hs2 : items.size + items2.size ≤ sizeLine + 1) :
    Meets (Builtin.«list.extend» ⟨[.ref l, .ref b], []⟩) (fun _ R s => s.heap.get? l = some { cls := .type "list", dict := none, data := .seq items n, slots := #[] } ∧ s.heap.get? b = some { cls := .type "tuple", dict := dd, data := .seq items2 n2, slots := sl } ∧ R (.ok (.ret Value.none)) { s with heap := s.heap.update l (Obj.mapSeq fun x => x ++ items2), toks := s.toks }) :=
  .of_wp fun prog w A R s h => by
    obtain ⟨hp, g, d, tk, os⟩ := s
    obtain ⟨hl, hb, h⟩ := h
    have f1 := AutoSeq1.idx_int
    have f2 := AutoSeq1.sub_tuple_tuple
    have f3 := AutoSeq1.sub_list_list
    have f4 := AutoSeq1.sub_tuple_list
    have f5 := AutoSeq1.sub_list_tuple
    have fits := hs2
    rw [← Array.size_append] at fits
    wp_walk using (wpAny_updateSeq hl rfl (hz := hs1) (_hz' := fits)), wpAny_loadPart' hl, wpAny_loadPart' hb
    exact ⟨_, rfl, h⟩
end
def rExtendT : V → List V → Hp → VK → Prop := fun x vs H Q => ∃ l b xs zs, x = .ref l ∧ vs = [.ref b] ∧ H l = some (.lst xs) ∧ H b = some (.tup zs) ∧ xs.length + zs.length ≤ sizeLine ∧ Q .non (upd H l (.lst (xs ++ zs)))
section
variable {X : Cx}
theorem mt_extendT : MtM X "list.extend" rExtendT := by
  rintro pins s σ H x vs v us Q I rx rv ⟨l, b, xs, zs, rfl, rfl, atl, atb, fits, k⟩
  obtain rfl : v = .ref l := rx
  obtain rfl := Vals.ref1 rv
  obtain ⟨_, l1, n, r1, e1, o1⟩ := I.lstM atl
  obtain ⟨_, l2, r2, ⟨oc, od, odt, osl⟩, o2, hc, n2, hd⟩ := I.hok b _ atb
  dsimp only at hc hd
  subst hc hd
  have all : l1.length + l2.length ≤ sizeLine := by
    rw [← r1.length, ← r2.length]
    exact fits
  have s1 : l1.toArray.size = l1.length := List.size_toArray ..
  have s2 : l2.toArray.size = l2.length := List.size_toArray ..
  have short : ¬ (!l1.toArray.isEmpty && Builtin.List.listTooLong (l1.toArray.size + l2.toArray.size)) = true := fun z => by
    rw [Bool.and_eq_true, notLongL (by omega)] at z
    exact Bool.false_ne_true z.2
  have put := I.lset (t' := s.toks) (f := fun x => x ++ l2.toArray) (its' := l1 ++ l2) atl o1 (List.append_toArray ..) (r1.append r2) (by rw [List.length_append]; exact fits)
  exact call_meets F.slot_list_extend ⟨_, o1, rfl⟩ F.entry_list_extend (F.args_list_extend_2 _ _) (extend_tuple l l1.toArray n b l2.toArray n2 od osl short (by omega) (by omega)) ⟨o1, o2, ⟨.non, _, put, rfl, k⟩⟩
end
end Tr
namespace Tr
open PySem PySem.Spec PyProof.Rows L2
abbrev sCounted : Stmt := top 17
abbrev sByNumber : Stmt := inClass (top 48) 5
/-- over a list, a tuple a turn -/
theorem lc_listTups {ι : Type} {K : PySem.W.Frag} {a : Addr} {es : List ι} (v : ι → V) (tv : ι → List V) {g : TG} {tt : TT} {te : TE} {vs : List Nat} {σ : L2.St} {H1 : Hp} {D : Addr} {Qd : Hp → Prop}
    (ha : SqL K H1 a (es.map v)) (hD : H1 D = none) (hn : es.length < sizeLine)
    (turn : ∀ e ∈ es, ∀ H', Same H1 H' → ∀ (A : V → Hp → Prop) (B : Hp → Prop), (∀ q, H' q = none → A (.ref q) (upd H' q (.tup (tv e)))) →
      g (v e) (wipe σ vs) H' fun σ2 H2 => wipe σ2 vs = wipe σ vs ∧ tt σ2 H2 fun b H3 => if b = true then te σ2 H3 A else B H3)
    (hd : ∀ H' (ps : List (ι × Addr)), Same H1 H' → ps.map (·.1) = es → tups tv H' ps → H' D = some (.lst (prf ps)) → Qd H') : LcW (Itl K a) g tt te vs σ H1 D Qd :=
  lc_tups v tv (walk_items_of es v) (fun i H x H' _ y => yat_of y) (fun H' s => s.seq ha) hD hn turn hd
theorem at_map {ι : Type} {l : List ι} {f : ι → V} {i : Nat} {x : V} (h : (l.map f)[i]? = some x) : ∃ y, l[i]? = some y ∧ x = f y := by
  rw [List.getElem?_map] at h
  cases q : l[i]? with
  | none =>
    rw [q] at h
    cases h
  | some y =>
    rw [q] at h
    exact ⟨y, rfl, (Option.some.inj h).symm⟩
section
variable {P : Program} {w : World} {K : PySem.W.Frag} {mg : Str → Option Value} {base : Heap} {C : Cl} {T : List (Addr × Str)}
/-! ### counted -/
def spCounted : Sp := fun vs H Q _ => ∃ (p : Addr) (ι : Type) (f : ι → List Int) (ps : List (ι × Addr)), vs = [.ref p] ∧ H p = some (.lst (prf ps)) ∧ tups (fun x => (f x).map V.int) H ps ∧ (ps.flatMap fun x => f x.1).length + 1 ≤ sizeLine ∧
  ∀ (H' : Hp) (q : Addr), Same H H' → H q = none → H' q = some (.lst (((ps.length : Int) :: ps.flatMap fun x => f x.1).map V.int)) → Q (.ref q) H'
theorem scCounted : FnScope ["rows", "answer", "row"] ["rows"] (defScope sCounted) := ⟨rfl, rfl, rfl, by decide +kernel, rfl, by decide +kernel, by decide +kernel⟩
theorem flat_take {α β : Type} {l : List α} {f : α → List β} (i : Nat) : ((l.take i).flatMap f).length ≤ (l.flatMap f).length := by
  conv => rhs; rw [← List.take_append_drop i l, List.flatMap_append, List.length_append]
  omega
theorem ok_counted {f : Addr} {fd : FuncData} (F : Fun K "counted" "counted" sCounted f fd) (N : TxtN mg) : FnOk P w K mg base CX0 1 f fd ["rows"] spCounted := by
  refine F.ok scCounted (fun vs H Q E h => ?_) (fun cdv A outer s H vs Q E hr h => ?_)
  · obtain ⟨p, ι, g, ps, rfl, _⟩ := h
    rfl
  · refine ⟨_, pss_cons (ps_set (i := 1) scCounted.nd rfl (Or.inl rfl) (pe_lst (pa_cons (pe_callB call_len_seq (by rfl) N.len PySem.boot_len (pa_cons (pv 0) pa_nil)) pa_nil)))
      (pss_cons (ps_for PassesOwn.never rfl (pi_list (pv 0)) (pg_name (i := 2) scCounted.nd rfl (Or.inl rfl))
        (pss_one (ps_expr (pe_bm PySem.F.plainAttrs_list PySem.F.slot_list_extend PySem.F.type_list_extend mt_extendT (pv 1) (pa_cons (pv 2) pa_nil)))))
      (pss_one (ps_ret (pv 1)))), ?_⟩
    obtain ⟨p, ι, g, ps, rfl, hp, htp, hsz, k⟩ := h
    refine ⟨_, rfl, p, _, rfl, .inl (SqL.of hp), by show 1 ≤ sizeLine; decide, fun q hq => ?_⟩
    have sq := sameUpd (o := .lst [.int ((prf ps).length : Nat)]) hq
    have hpq : p ≠ q := ne_of_none hp hq
    refine ⟨_, rfl, p, rfl, ⟨_, SqL.of (sq _ _ hp)⟩, for_list (K := K) (a := p) (xs := prf ps) (fun i σ H' => ∃ v2 : Option V, σ = [some (.ref p), some (.ref q), v2] ∧ Same H H' ∧ H' q = some (.lst (((ps.length : Int) :: (ps.take i).flatMap fun x => g x.1).map V.int)))
      ⟨none, rfl, sq, by rw [upd_same, prf_len]; rfl⟩ (fun i σ H' _ ⟨_, _, s1, _⟩ => SqL.of (s1 _ _ hp)) ?_ ?_⟩
    · rintro i x σ H' hi ⟨v2, rfl, sH, hq'⟩
      obtain ⟨y, hy, rfl⟩ := at_map hi
      have hty := sH _ _ (htp y (List.mem_of_getElem? hy))
      refine ⟨_, rfl, .inl ⟨rfl, _, SqL.of hq'⟩, _, rfl, q, y.2, _, _, rfl, rfl, hq', hty, ?_, some (.ref y.2), rfl, samePut sH hq, ?_⟩
      · have h1 := flat_take (l := ps) (f := fun x => g x.1) (i + 1)
        rw [take_more hy, List.flatMap_append, List.length_append, List.flatMap_cons, List.flatMap_nil, List.append_nil] at h1
        rw [List.length_map, List.length_map, List.length_cons]
        omega
      · rw [upd_same, take_more hy, List.flatMap_append, List.flatMap_cons, List.flatMap_nil, List.append_nil, ← List.cons_append, List.map_append]
    · rintro σ H' ⟨v2, rfl, sH, hq'⟩
      refine ⟨_, rfl, k H' q sH hq ?_⟩
      rw [prf_len, List.take_length] at hq'
      exact hq'
/-! ### by_number -/
def trf (ts : List TR) : List V := ts.map fun r => V.ref r.a
def spByNumber (C : Cl) : Sp := fun vs H Q _ => ∃ (a dx dT : Addr) (m : HM), vs = [.ref a] ∧ HouseAt C H a m dx dT ∧ (m.ts.map (·.n)).Nodup ∧ m.ts.length ≤ 60 ∧
  ∀ (H' : Hp) (p : Addr) (ts : List TR), Same H H' → ts.Perm m.ts → (ts.Pairwise fun x y => x.n < y.n) → H p = none → H' p = some (.lst (trf ts)) → Q (.ref p) H'
theorem scByNumber : FnScope ["self", "number"] ["self"] (defScope sByNumber) := ⟨rfl, rfl, rfl, by decide +kernel, rfl, by decide +kernel, by decide +kernel⟩
theorem ok_byNumber {f : Addr} {fd : FuncData} (F : Fun K "by_number" "House.by_number" sByNumber f fd) (TH : TxtH K mg C.H) (N : TxtN mg) : FnOk P w K mg base CX0 1 f fd ["self"] (spByNumber C) := by
  refine F.ok scByNumber (fun vs H Q E h => ?_) (fun cdv A outer s H vs Q E hr h => ?_)
  · obtain ⟨a, dx, dT, m, rfl, _⟩ := h
    rfl
  · have hu := hu_of hr
    refine ⟨_, pss_one (ps_ret (pe_lc (own := [("number", 1)]) (g := gName 1) (tt := tYes) (te := tDGet (tFld K (tVar 0) "traces") (tVar 1)) rfl scByNumber.nd (pi_list (pe_callB (call_sortedDI rfl) (by rfl) N.sorted (by decide +kernel) (pa_cons (pe_fld (pv 0) rfl) pa_nil)))
      (blkOk_by (N := ["self", "number"]) (sc := defScope sByNumber) (by decide +kernel)) (fun _ _ _ _ _ => pg_name (i := 1) scByNumber.nd rfl (Or.inl rfl)) (fun _ _ _ _ _ => pts_nil)
      (fun _ _ _ _ _ => pe_dget (by exact hu) (pe_fld (pv 0) rfl) (pv 1) (fun _ _ => rfl)))), ?_⟩
    obtain ⟨a, dx, dT, m, rfl, ha, nd, few, k⟩ := h
    have hks : (kvT m.ts).map (·.1) = (m.ts.map fun r => (r.n : Int)).map Sum.inl := by
      unfold kvT
      rw [List.map_map, List.map_map]
      rfl
    refine ⟨_, rfl, a, C.H, dx, _, _, rfl, ha.ins, TH.cl, TH.nTraces, hF_traces _ dT, dT, kvT m.ts, m.ts.map fun r => (r.n : Int), rfl, .inl ha.dict, hks, ?_, fun ys p hp hs hn => ?_⟩
    · rw [List.length_map]
      exact Nat.lt_of_le_of_lt few (by decide)
    obtain ⟨tsS, hpS, hmS⟩ := perm_lift (fun r : TR => (r.n : Int)) hp.symm
    have hoS : tsS.Pairwise fun x y => x.n < y.n := by
      have h1 : (tsS.map fun r => (r.n : Int)).Pairwise (· ≤ ·) := by
        rw [hmS]
        exact hs
      have h2 : (tsS.map (·.n)).Nodup := (hpS.map _).nodup_iff.mpr nd
      unfold List.Nodup at h2
      rw [List.pairwise_map] at h1 h2
      exact (h1.and h2).imp fun {x y} q => by
        have := q.1
        have := q.2
        omega
    subst hmS
    have sp1 := sameUpd (o := .lst ((tsS.map fun r => (r.n : Int)).map V.int)) hn
    refine ⟨p, rfl, ⟨_, SqL.of upd_same⟩, fun D hD => ?_⟩
    refine lc_listPick (K := K) (es := tsS) (fun r => V.int (r.n : Int)) (fun r => V.ref r.a) (fun _ => true) ?_ hD ?_ ?_ ?_
    · rw [List.map_map] at *
      exact SqL.of upd_same
    · rw [hpS.length_eq]
      exact Nat.lt_of_le_of_lt few (by decide)
    · intro r hr H' s2 A' B' h1 h2
      have hrm := hpS.mem_iff.mp hr
      have ha' := (ha.same sp1).same s2
      have dg : DGet H' dT (.int (r.n : Int)) (some (.ref r.a)) := by
        have g := DGet.k (k := Sum.inl (r.n : Int)) ha'.dict
        rw [kvT_val nd hrm] at g
        exact g
      exact ⟨rfl, yes_if ⟨_, rfl, a, C.H, dx, _, _, rfl, ha'.ins, TH.cl, TH.nTraces, hF_traces _ dT, _, rfl, dT, _, rfl, dg, h1 rfl⟩⟩
    · intro H2 s2 hD2
      rw [filter_all] at hD2
      exact k H2 D tsS (sp1.trans s2) hpS hoS (sp1.free hD) hD2
end
end Tr
namespace Tr
open PySem PySem.Spec PyProof.Rows L2
theorem hF_now_put (q s e n n' : Int) (d : V) : putF "now" (.int n') [("quiet", .int q), ("slow", .int s), ("each", .int e), ("now", .int n), ("traces", d)] = ([("quiet", .int q), ("slow", .int s), ("each", .int e), ("now", .int n'), ("traces", d)] : List (Str × V)) := by kernel_rfl
theorem tF_verdict_put (n h v v' : Int) (d : V) : putF "verdict" (.int v') [("number", .int n), ("spans", d), ("heard", .int h), ("verdict", .int v)] = ([("number", .int n), ("spans", d), ("heard", .int h), ("verdict", .int v')] : List (Str × V)) := by kernel_rfl
/-- the verdicts of some traces set -/
def setAll (vf : Nat → Nat) (ds : List TR) (ts : List TR) : List TR := ts.map fun z => if z.n ∈ ds.map (·.n) then { z with verdict := vf z.n } else z
def vfOf (m : HM) (h : Sq40.House) (t : Nat) : Nat := if judge m (h.of_ t) t = true then 1 else 2
theorem setAll_nil (vf : Nat → Nat) (ts : List TR) : setAll vf [] ts = ts := by
  unfold setAll
  have : ∀ z ∈ ts, (if z.n ∈ ([] : List TR).map (·.n) then { z with verdict := vf z.n } else z) = z := fun z _ => if_neg (by simp)
  calc _ = ts.map id := List.map_congr_left this
    _ = ts := List.map_id _
theorem setAll_snoc (vf : Nat → Nat) (ds : List TR) (r : TR) (ts : List TR) : setAll vf (ds ++ [r]) ts = (setAll vf ds ts).map (setV r.n (vf r.n)) := by
  unfold setAll
  rw [List.map_map]
  refine List.map_congr_left fun z _ => ?_
  show _ = setV r.n (vf r.n) (if z.n ∈ ds.map (·.n) then { z with verdict := vf z.n } else z)
  by_cases c : z.n = r.n
  · have e1 : z.n ∈ (ds ++ [r]).map (·.n) := by
      rw [List.map_append]
      exact List.mem_append_right _ (by simp [c])
    rw [if_pos e1]
    by_cases d : z.n ∈ ds.map (·.n)
    · rw [if_pos d]
      unfold setV
      rw [if_pos c]
      rw [c]
    · rw [if_neg d]
      unfold setV
      rw [if_pos c, c]
  · by_cases d : z.n ∈ ds.map (·.n)
    · have e1 : z.n ∈ (ds ++ [r]).map (·.n) := by
        rw [List.map_append]
        exact List.mem_append_left _ d
      rw [if_pos e1, if_pos d]
      unfold setV
      rw [if_neg c]
    · have e1 : ¬ z.n ∈ (ds ++ [r]).map (·.n) := fun q => by
        rw [List.map_append] at q
        rcases List.mem_append.mp q with q | q
        · exact d q
        · exact c (by simpa using q)
      rw [if_neg e1, if_neg d]
      unfold setV
      rw [if_neg c]
theorem setAll_mem {vf : Nat → Nat} {ds ts : List TR} {r : TR} (hr : r ∈ ts) (hn : r.n ∉ ds.map (·.n)) : r ∈ setAll vf ds ts := List.mem_map.mpr ⟨r, hr, if_neg hn⟩
theorem setAll_n (vf : Nat → Nat) (ds ts : List TR) : (setAll vf ds ts).map (·.n) = ts.map (·.n) := map_n fun z => by split <;> rfl
section
variable {P : Program} {w : World} {K : PySem.W.Frag} {mg : Str → Option Value} {base : Heap} {C : Cl} {T : List (Addr × Str)}
theorem house_now {H : Hp} {a dx dT : Addr} {m : HM} {now : Nat} (ha : HouseAt C H a m dx dT) : HouseAt C (upd H a (.ins C.H dx (hF { m with now := now } dT))) a { m with now := now } dx dT := by
  refine ⟨upd_same, ?_, fun r hr => ?_, ha.nda, ha.nds, ha.dn, ha.an⟩
  · rw [upd_ne (ne_of ha.dict ha.ins (by intro z; cases z))]
    exact ha.dict
  · have ok := ha.trs r hr
    refine ⟨?_, ?_, fun e he => ?_⟩
    · rw [upd_ne (ha.an r hr)]
      exact ok.ins
    · rw [upd_ne (ne_of ok.dict ha.ins (by intro z; cases z))]
      exact ok.dict
    · obtain ⟨d, q⟩ := ok.spans e he
      refine ⟨d, ?_⟩
      rw [upd_ne (ne_of q ha.ins (ins_ne (by show 6 ≠ 5; decide)))]
      exact q
/-- a list written -/
theorem TRok.lst {CS CT : Addr} {H : Hp} {r : TR} {q : Addr} {xs ys : List V} (h : TRok CS CT H r) (hq : H q = some (.lst xs)) : TRok CS CT (upd H q (.lst ys)) r :=
  ⟨(upd_ne (ne_of h.ins hq (by intro z; cases z))).trans h.ins, (upd_ne (ne_of h.dict hq (by intro z; cases z))).trans h.dict, fun e he =>
    let ⟨d, z⟩ := h.spans e he
    ⟨d, (upd_ne (ne_of z hq (by intro z; cases z))).trans z⟩⟩
theorem HouseAt.lst {H : Hp} {a dx dT q : Addr} {m : HM} {xs ys : List V} (h : HouseAt C H a m dx dT) (hq : H q = some (.lst xs)) : HouseAt C (upd H q (.lst ys)) a m dx dT :=
  ⟨(upd_ne (ne_of h.ins hq (by intro z; cases z))).trans h.ins, (upd_ne (ne_of h.dict hq (by intro z; cases z))).trans h.dict, fun r hr => (h.trs r hr).lst hq, h.nda, h.nds, h.dn, h.an⟩
theorem _root_.LamX.TabS.lst {H : Hp} {P q : Addr} {n : Str} {xs ys : List V} (t : LamX.TabS H P n) (hq : H q = some (.lst xs)) : LamX.TabS (upd H q (.lst ys)) P n := by
  obtain ⟨ps, h1, h2, h3⟩ := t
  refine ⟨ps, (upd_ne (ne_of h1 hq (by intro z; cases z))).trans h1, h2, fun pos cv hc => ?_⟩
  obtain ⟨c, e1, e2⟩ := h3 pos cv hc
  exact ⟨c, e1, (upd_ne (ne_of e2 hq (by intro z; unfold LamX.CodeO at z; cases z))).trans e2⟩

theorem flat_len {ι : Type} {f : ι → List Int} {n : Nat} (h : ∀ x, (f x).length = n) (ps : List (ι × Addr)) : (ps.flatMap fun x => f x.1).length = n * ps.length := by
  induction ps with
  | nil => rfl
  | cons y l ih =>
    rw [List.flatMap_cons, List.length_append, ih, List.length_cons, h, Nat.mul_add]
    omega
def tickRow (m : HM) (h : Sq40.House) (r : TR) : List Int := [(r.n : Int), if judge m (h.of_ r.n) r.n = true then 1 else 0]
def spTick (C : Cl) (T : List (Addr × Str)) : Sp := fun vs H Q _ => ∃ (a : Addr) (now : Nat), vs = [.ref a, .int now] ∧ Does C T (.tick now) a H Q
theorem scTick : FnScope ["self", "now", "decided", "trace"] ["self", "now"] (defScope sTick) := ⟨rfl, rfl, rfl, by decide +kernel, rfl, by decide +kernel, by decide +kernel⟩
theorem ok_tick {f fi fj fb fc : Addr} {fd fdi fdj fdb fdc : FuncData} (F : Fun K "tick" "House.tick" sTick f fd) (TT : TxtT K mg C.T) (TH : TxtH K mg C.H)
    (Gi : FnOk P w K mg base CX0 1 fi fdi ["self", "trace"] (spIsDue C)) (mi : Meth K C.H "is_due" fi) (bi : Binds K fdi ["self", "trace"] [])
    (Gj : FnOk P w K mg base CX0 2 fj fdj ["self", "trace"] (spJudged C)) (mj : Meth K C.H "judged" fj) (bj : Binds K fdj ["self", "trace"] [])
    (Gb : FnOk P w K mg base CX0 1 fb fdb ["self"] (spByNumber C)) (mb : Meth K C.H "by_number" fb) (bb : Binds K fdb ["self"] [])
    (Gc : FnOk P w K mg base CX0 1 fc fdc ["rows"] spCounted) (gc : mg "counted" = some (.ref fc)) (kc : PySem.W.keepIn K (.ref fc) = true) (bc : Binds K fdc ["rows"] []) :
    FnOk P w K mg base CX0 3 f fd ["self", "now"] (spTick C T) := by
  obtain ⟨t1, e1⟩ := TH.time
  obtain ⟨t2, e2⟩ := TH.cannot
  obtain ⟨t3, e3⟩ := TH.kept
  refine F.ok scTick (fun vs H Q E h => ?_) (fun cdv A outer s H vs Q E hr h => ?_)
  · obtain ⟨a, now, rfl, _⟩ := h
    rfl
  · have hu := hu_of hr
    have hr1 : Room 1 (A.deeper (envOfC "House.tick" (defScope sTick) s.heap.objs.size f cdv)) := hr.mono (by decide)
    refine ⟨_, pss_cons (ps_if (PW.pt (pw_or (pt_cmpR op_lt (pv 1) (pe_fld (pv 0) rfl) (nomark _)) (pw_or1 (pt_cmpR op_gt (pv 1) (pe_glob (v := .int 2000000) rfl e1 ⟨_, rfl⟩) (nomark _))))) (pss_one (ps_ret (pe_lst (pa_cons (pe_glob (v := .int (-1)) rfl e2 ⟨_, rfl⟩) pa_nil)))) pss_nil)
      (pss_cons (ps_fld (pv 0) (pv 1) rfl)
      (pss_cons (ps_setLc (i := 2) (own := [("trace", 3)]) (g := gName 3) (tt := tB (tMeth C.H "is_due" (spIsDue C) [] E0 (tVar 0) (tCons (tVar 3) tNil))) (te := tVar 3) rfl scTick.nd rfl rfl (sw_true rfl rfl rfl (by decide +kernel))
        (pi_list (pe_meth0 (pv 0) TH.cl mb Gb hr1 bb .nil pass0))
        (blkOk_by (N := ["self", "now", "decided", "trace"]) (sc := defScope sTick) (by decide +kernel)) (fun _ _ _ _ _ => pg_name (i := 3) scTick.nd rfl (Or.inl rfl))
        (fun _ _ _ _ _ => pts_one (pt_val (pe_meth (pv 0) TH.cl mi Gi (by exact hr1) bi .nil pass0 (pa_cons (pv 3) pa_nil))))
        (fun _ _ _ _ _ => pv 3))
      (pss_cons (ps_for PassesOwn.never rfl (pi_list (pv 2)) (pg_name (i := 3) scTick.nd rfl (Or.inl rfl))
        (pss_one (ps_fld (pv 3) (pe_meth (pv 0) TH.cl mj Gj hr bj .nil pass0 (pa_cons (pv 3) pa_nil)) rfl)))
      (pss_one (ps_ret (pe_call Gc hr1 rfl gc kc bc .nil pass0 (pa_cons
        (pe_lc (own := [("trace", 3)]) (g := gName 3) (tt := tYes) (te := tTup (tCons (tFld K (tVar 3) "number") (tCons (tIf (tTest (tOp rEq (tFld K (tVar 3) "verdict") (tC (.int 1)))) (tC (.int 1)) (tC (.int 0))) tNil))) rfl scTick.nd (pi_list (pv 2))
          (blkOk_by (N := ["self", "now", "decided", "trace"]) (sc := defScope sTick) (by decide +kernel)) (fun _ _ _ _ _ => pg_name (i := 3) scTick.nd rfl (Or.inl rfl))
          (fun _ _ _ _ _ => pts_nil) (fun _ _ _ _ _ => pe_tup (pa_cons (pe_fld (pv 3) rfl) (pa_cons (pe_ifExp (pt_cmpR op_eq (pe_fld (pv 3) rfl) (pe_glob (v := .int 1) rfl e3 ⟨_, rfl⟩) (nomark _)) pe_int pe_int) pa_nil)))) pa_nil))))))), ?_⟩
    obtain ⟨a, now, rfl, m, h, dx, dT, ha, R, tabs, k⟩ := h
    refine ⟨_, rfl, _, rfl, a, C.H, dx, _, _, rfl, ha.ins, TH.cl, TH.nNow, hF_now m dT, _, _, rfl, rfl, _, rfl, ?_⟩
    by_cases c1 : (now : Int) < (m.now : Int)
    · rw [decide_eq_true c1]
      refine iteT (iteT ⟨by show 1 ≤ sizeLine; decide, fun q hq => Does.refuse ha R tabs k (if_pos (.inl ?_)) (Same.refl H) hq⟩)
      rw [R.now]
      omega
    rw [decide_eq_false c1]
    refine iteF ⟨_, rfl, _, _, rfl, rfl, _, rfl, ?_⟩
    by_cases c2 : (2000000 : Int) < (now : Int)
    · rw [decide_eq_true c2]
      refine iteT ⟨by show 1 ≤ sizeLine; decide, fun q hq => Does.refuse ha R tabs k (if_pos (.inr ?_)) (Same.refl H) hq⟩
      show 2 * 10 ^ 6 < now
      omega
    rw [decide_eq_false c2]
    refine iteF ⟨_, rfl, _, rfl, a, C.H, dx, _, rfl, ha.ins, TH.cl, TH.nNow, by show 5 < 1000; decide, ?_⟩
    have st : h.step (.tick now) = (h.tick now, ⟨(h.due now).length, Sq40.ints ((h.due now).flatMap fun t => [t, if h.keeps t = true then 1 else 0])⟩) := if_neg (by
      rw [R.now]
      show ¬ (now < m.now ∨ 2 * 10 ^ 6 < now)
      omega)
    have eput : putF "now" (.int now) (hF m dT) = hF { m with now := now } dT := hF_now_put m.quiet m.slow m.each m.now now (.ref dT)
    rw [eput]
    have ha1 := house_now (now := now) ha
    have kp1 : KeepL H (upd H a (.ins C.H dx (hF { m with now := now } dT))) := KeepL.upd ha.ins rfl
    have tb1 : LamX.Tabs T (upd H a (.ins C.H dx (hF { m with now := now } dT))) := fun q hq => (tabs q hq).ext' fun b o hb hn => by
      rw [upd_ne (ne_of hb ha.ins (by intro z; exact hn _ _ _ z))]
      exact hb
    have dom1 : ∀ y, upd H a (.ins C.H dx (hF { m with now := now } dT)) y = none → H y = none := fun y hy => by
      by_cases z : y = a
      · rw [z, upd_same] at hy
        cases hy
      · rw [upd_ne z] at hy
        exact hy
    generalize upd H a (.ins C.H dx (hF { m with now := now } dT)) = H1 at ha1 kp1 tb1 dom1
    refine ⟨_, rfl, a, dx, _, rfl, ha1.ins, hF_none _ dT (by decide +kernel), a, dx, dT, { m with now := now }, rfl, ha1, R.nd, R.few, fun Hb p tsS sb hpS hoS hpn hpb => ?_⟩
    replace hpS : tsS.Perm m.ts := hpS
    have hab := ha1.same sb
    refine ⟨p, rfl, ⟨_, SqL.of hpb⟩, fun D hD => ?_⟩
    refine lc_listPick (K := K) (es := tsS) (fun r => V.ref r.a) (fun r => V.ref r.a) (fun r => isDue { m with now := now } now r) (SqL.of hpb) hD ?_ ?_ ?_
    · rw [hpS.length_eq]
      exact Nat.lt_of_le_of_lt R.few (by decide)
    · intro r hr H' s2 A' B' h1 h2
      have hrm := hpS.mem_iff.mp hr
      have ha' := hab.same s2
      refine ⟨rfl, ⟨_, rfl, a, dx, _, rfl, ha'.ins, hF_none _ dT (by decide +kernel), _, rfl, a, dx, dT, { m with now := now }, r, rfl, ha'.ins, (ha'.trs r hrm).ins, _, rfl, ?_⟩⟩
      show (if isDue { m with now := now } now r = true then _ else _)
      cases c : isDue { m with now := now } now r with
      | true => exact iteT ⟨_, rfl, h1 c⟩
      | false => exact iteF (h2 c)
    intro H2 s2 hD2
    replace hD2 : H2 D = some (.lst ((tsS.filter (isDue m now)).map fun r => V.ref r.a)) := hD2
    have due := due_is R hpS hoS now
    have hdm : ∀ r ∈ tsS.filter (isDue m now), r ∈ m.ts ∧ isDue m now r = true := fun r hr => ⟨hpS.mem_iff.mp (List.mem_filter.mp hr).1, (List.mem_filter.mp hr).2⟩
    have hdn : ((tsS.filter (isDue m now)).map (·.n)).Nodup := by
      have := List.Pairwise.filter (isDue m now) hoS
      unfold List.Nodup
      rw [List.pairwise_map]
      exact this.imp fun q => Nat.ne_of_lt q
    have hdl : (tsS.filter (isDue m now)).length ≤ 60 := Nat.le_trans (List.length_filter_le _ _) (by rw [hpS.length_eq]; exact R.few)
    generalize tsS.filter (isDue m now) = du at hD2 due hdm hdn hdl
    have sH2 := sb.trans s2
    have ha2 := ha1.same sH2
    have kp2 := kp1.trans (KeepL.of sH2)
    have tb2 := tb1.ext sH2
    have dom2 : ∀ y, H2 y = none → H y = none := fun y hy => dom1 y (sH2.free hy)
    refine ⟨_, rfl, D, rfl, ⟨_, SqL.of hD2⟩, for_list (K := K) (a := D) (xs := du.map fun r => V.ref r.a) (fun i σ H' => ∃ v3 : Option V, σ = [some (.ref a), some (.int now), some (.ref D), v3] ∧
      HouseAt C H' a { m with now := now, ts := setAll (vfOf m h) (du.take i) m.ts } dx dT ∧ KeepL H2 H' ∧ LamX.Tabs T H' ∧ (∀ y, H' y = none → H2 y = none))
      ⟨none, rfl, ?_, KeepL.refl _, tb2, fun _ y => y⟩ (fun i σ H' _ ⟨_, _, _, kq, _⟩ => SqL.of (kq _ _ hD2 rfl)) ?_ ?_⟩
    · rw [List.take_zero, setAll_nil]
      exact ha2
    · rintro i x σ H' hi ⟨v3, rfl, ha', kq, tb, dom'⟩
      obtain ⟨r, hri, rfl⟩ := at_map hi
      obtain ⟨hrm, hrd⟩ := hdm r (List.mem_of_getElem? hri)
      have hnin : r.n ∉ (du.take i).map (·.n) := fun z => by
        have h1 : (du.map (·.n))[i]? = some r.n := by
          rw [List.getElem?_map, hri]
          rfl
        rw [List.map_take] at z
        obtain ⟨j, hj⟩ := List.getElem?_of_mem z
        have hjl : j < i := by
          have := (List.getElem?_eq_some_iff.mp hj).1
          rw [List.length_take] at this
          omega
        rw [List.getElem?_take_of_lt hjl] at hj
        have := nd_ix hdn hj h1
        omega
      have hrs : r ∈ setAll (vfOf m h) (du.take i) m.ts := setAll_mem hrm hnin
      have okr := ha'.trs r hrs
      refine ⟨_, rfl, a, dx, _, rfl, ha'.ins, hF_none _ dT (by decide +kernel), _, rfl, a, dx, dT, _, r, h.of_ r.n, rfl, ha'.ins, okr, R.pure hrm, R.some hrm, R.epos, fun H4 s4 => ?_⟩
      have ha4 := ha'.same s4
      have ok4 := okr.same s4
      refine ⟨_, rfl, r.a, C.T, r.dx, _, rfl, ok4.ins, TT.cl, TT.nVerdict, by show 4 < 1000; decide, ?_⟩
      have ev : putF "verdict" (.int (if judge { m with now := now, ts := setAll (vfOf m h) (du.take i) m.ts } (h.of_ r.n) r.n = true then 1 else 2)) (tF r) = tF { r with verdict := vfOf m h r.n } := by
        show putF "verdict" (.int (if judge m (h.of_ r.n) r.n = true then 1 else 2)) (tF r) = _
        have z := tF_verdict_put r.n r.heard r.verdict (vfOf m h r.n : Nat) (.ref r.ds)
        have y : (if judge m (h.of_ r.n) r.n = true then (1 : Int) else 2) = ((vfOf m h r.n : Nat) : Int) := by
          unfold vfOf
          split <;> rfl
        rw [y]
        exact z
      rw [ev]
      have ha5 := house_verdict (v := vfOf m h r.n) ha4 hrs (by rw [setAll_n]; exact R.nd)
      have kp5 : KeepL H2 (upd H4 r.a (.ins C.T r.dx (tF { r with verdict := vfOf m h r.n }))) := (kq.trans (KeepL.of s4)).trans (KeepL.upd ok4.ins rfl)
      have tb4 := tb.ext s4
      have tb5 : LamX.Tabs T (upd H4 r.a (.ins C.T r.dx (tF { r with verdict := vfOf m h r.n }))) := fun y hy => (tb4 y hy).ext' fun b o hb hn => by
        rw [upd_ne (ne_of hb ok4.ins (by intro z; exact hn _ _ _ z))]
        exact hb
      have esn : setAll (vfOf m h) (du.take (i + 1)) m.ts = (setAll (vfOf m h) (du.take i) m.ts).map (setV r.n (vfOf m h r.n)) := by
        rw [take_more hri, setAll_snoc]
      refine ⟨some (.ref r.a), rfl, ?_, kp5, tb5, fun y hy => ?_⟩
      · rw [esn]
        exact ha5
      · by_cases z : y = r.a
        · rw [z, upd_same] at hy
          cases hy
        · rw [upd_ne z] at hy
          exact dom' y (s4.free hy)
    · rintro σ H3 ⟨v3, rfl, ha3, kq, tb3, dom3⟩
      rw [List.length_map, List.take_length] at ha3
      have et : setAll (vfOf m h) du m.ts = m.ts.map (tickT m h now) := by
        unfold setAll
        refine List.map_congr_left fun z hz => ?_
        have iff1 : z.n ∈ du.map (·.n) ↔ isDue m now z = true := by
          rw [← due, mem_due R]
          refine ⟨fun ⟨r, hr, e, d⟩ => ?_, fun d => ⟨z, hz, rfl, d⟩⟩
          rw [← R.uniq hr hz e]
          exact d
        unfold tickT
        by_cases c : isDue m now z = true
        · rw [if_pos (iff1.mpr c), if_pos c]
          rfl
        · rw [if_neg (fun y => c (iff1.mp y)), if_neg c]
      have hD3 := kq _ _ hD2 rfl
      have hdu3 : ∀ r ∈ du, H3 r.a = some (.ins C.T r.dx (tF { r with verdict := vfOf m h r.n })) := fun r hr => by
        have hm : { r with verdict := vfOf m h r.n } ∈ setAll (vfOf m h) du m.ts := List.mem_map.mpr ⟨r, (hdm r hr).1, if_pos (List.mem_map.mpr ⟨r, hr, rfl⟩)⟩
        exact (ha3.trs _ hm).ins
      refine ⟨_, rfl, D, rfl, ⟨_, SqL.of hD3⟩, fun D2 hD2' => ?_⟩
      refine lc_listTups (K := K) (es := du) (fun r => V.ref r.a) (fun r => [.int (r.n : Int), .int (if judge m (h.of_ r.n) r.n = true then 1 else 0)]) (SqL.of hD3) hD2' (Nat.lt_of_le_of_lt hdl (by decide)) ?_ ?_
      · intro r hr H' s5 A' B' h1
        have i5 := s5 _ _ (hdu3 r hr)
        refine ⟨rfl, yes_if ⟨_, rfl, r.a, C.T, r.dx, _, _, rfl, i5, TT.cl, TT.nNumber, tF_number _, _, rfl, r.a, C.T, r.dx, _, _, rfl, i5, TT.cl, TT.nVerdict, tF_verdict _, rfl, _, rfl, ?_⟩⟩
        by_cases cj : judge m (h.of_ r.n) r.n = true
        · have e1' : decide (V.int ((vfOf m h r.n : Nat) : Int) = V.int 1) = true := by
            unfold vfOf
            rw [if_pos cj]
            rfl
          rw [if_pos cj] at h1
          show (if decide (V.int ((vfOf m h r.n : Nat) : Int) = V.int 1) = true then _ else _)
          rw [e1']
          exact iteT ⟨by show 2 ≤ sizeLine; decide, fun q hq => h1 q hq⟩
        · have e1' : decide (V.int ((vfOf m h r.n : Nat) : Int) = V.int 1) = false := by
            unfold vfOf
            rw [if_neg cj]
            exact decide_eq_false (fun z => by have := V.int.inj z; omega)
          rw [if_neg cj] at h1
          show (if decide (V.int ((vfOf m h r.n : Nat) : Int) = V.int 1) = true then _ else _)
          rw [e1']
          exact iteF ⟨by show 2 ≤ sizeLine; decide, fun q hq => h1 q hq⟩
      · intro H6 ps s6 hps htp hD6
        refine ⟨D2, TR, tickRow m h, ps, rfl, hD6, htp, ?_, fun H7 q s7 hq7 hq => ?_⟩
        · refine Nat.le_trans (Nat.le_of_eq (congrArg (· + 1) (flat_len (f := tickRow m h) (n := 2) (fun _ => rfl) ps))) ?_
          have : ps.length = du.length := by rw [← hps, List.length_map]
          exact Nat.le_trans (show 2 * ps.length + 1 ≤ 121 by omega) (by decide)
        rw [et] at ha3
        have s67 := s6.trans s7
        refine k H7 q _ dx dT (ha3.same s67) (by rw [st]; exact rel_tick R now) (tb3.ext s67) (kp2.trans (kq.trans (KeepL.of s67))) (NL.of (dom2 q (dom3 q (s6.free hq7)))) ?_
        rw [hq, st, due, ← hps]
        refine congrArg (fun z : List Int => some (HO.lst (z.map V.int))) ?_
        show _ = (((ps.map (·.1)).map (·.n)).length : Int) :: Sq40.ints (((ps.map (·.1)).map (·.n)).flatMap fun t => [t, if h.keeps t = true then 1 else 0])
        rw [List.length_map, List.length_map]
        congr 1
        unfold Sq40.ints
        rw [List.flatMap_map, List.flatMap_map, List.map_flatMap]
        congr 1
        funext r
        rw [keeps_is R]
        show [(r.1.n : Int), if judge m (h.of_ r.1.n) r.1.n = true then 1 else 0] = [((r.1.n : Nat) : Int), ((if judge m (h.of_ r.1.n) r.1.n = true then 1 else 0 : Nat) : Int)]
        split <;> rfl
end
end Tr
namespace Tr
open PySem PySem.Spec PyProof.Rows L2
abbrev sTreeReply : Stmt := top 18
abbrev sAloneReply : Stmt := top 19
abbrev sPathReply : Stmt := top 20
theorem at_none {h : Sq40.House} {t : Nat} {f : List Sq40.Span → Sq40.Out} (e : h.of_ t = []) : h.at_ t f = (h, Sq40.says (-2)) := by
  unfold Sq40.House.at_
  rw [e]
  rfl
theorem at_some {h : Sq40.House} {t : Nat} {f : List Sq40.Span → Sq40.Out} (e : h.of_ t ≠ []) : h.at_ t f = (h, f (h.of_ t)) := by
  unfold Sq40.House.at_
  cases q : h.of_ t with
  | nil => exact absurd q e
  | cons x l => rfl
theorem step_tree (h : Sq40.House) (t : Nat) : h.step (.tree t) = h.at_ t fun l => ⟨if (Sq40.whole l).isSome = true then 1 else 0, Sq40.ints ((Sq40.tree l).flatMap fun x => [x.1.id, x.2])⟩ := rfl
theorem step_alone (h : Sq40.House) (t i : Nat) : h.step (.alone t i) = h.at_ t fun l => match l.find? fun x => x.id == i with | none => Sq40.says (-3) | some x => Sq40.says (Sq40.alone l x) := rfl
theorem step_path (h : Sq40.House) (t : Nat) : h.step (.path t) = h.at_ t fun l => match Sq40.whole l with | none => Sq40.says (-6) | some x => ⟨(Sq40.pathOf l x).length, Sq40.ints ((Sq40.pathOf l x).flatMap fun p => [p.id, p.from_, p.to])⟩ := rfl
theorem ifC {c : Bool} {σ : L2.St} {H : Hp} {R : VK} {x y : V} (h : R (if c = true then x else y) H) : if c = true then tC x σ H R else tC y σ H R := by
  cases c
  · exact iteF h
  · exact iteT h
theorem len_flat2 {α : Type} {f g : α → Int} (l : List α) : (l.flatMap fun x => [f x, g x]).length = 2 * l.length := by
  induction l with
  | nil => rfl
  | cons y l ih =>
    rw [List.flatMap_cons, List.length_append, ih, List.length_cons]
    show 2 + 2 * l.length = 2 * (l.length + 1)
    omega
theorem prf_ne {ι : Type} {ps : List (ι × Addr)} {z : Int} {r : List V} : prf ps ≠ .int z :: r := fun e => by
  cases ps with
  | nil => cases e
  | cons p ps =>
    have := (List.cons.inj e).1
    cases this

def oTree (l : List Sq40.Span) : Sq40.Out := ⟨if (Sq40.whole l).isSome = true then 1 else 0, Sq40.ints ((Sq40.tree l).flatMap fun x => [x.1.id, x.2])⟩
def oAlone (i : Nat) (l : List Sq40.Span) : Sq40.Out := match l.find? fun x => x.id == i with | none => Sq40.says (-3) | some x => Sq40.says (Sq40.alone l x)
def oPath (l : List Sq40.Span) : Sq40.Out := match Sq40.whole l with | none => Sq40.says (-6) | some x => ⟨(Sq40.pathOf l x).length, Sq40.ints ((Sq40.pathOf l x).flatMap fun p => [p.id, p.from_, p.to])⟩
def oHung (l : List Sq40.Span) : Sq40.Out := match Sq40.whole l with | none => Sq40.says (-6) | some x => ⟨(Sq40.hung l (Sq40.pathOf l x)).length, Sq40.ints ((Sq40.hung l (Sq40.pathOf l x)).flatMap fun y => [y.1, y.2])⟩
def oFaults (l : List Sq40.Span) : Sq40.Out := ⟨(Sq40.faults l).length, Sq40.ints ((Sq40.faults l).map fun x => x.id)⟩
section
variable {P : Program} {w : World} {K : PySem.W.Frag} {mg : Str → Option Value} {base : Heap} {C : Cl} {T : List (Addr × Str)}
/-- what an answer about one trace promises -/
def Tells (C : Cl) (T : List (Addr × Str)) (o : List Sq40.Span → Sq40.Out) (r : TR) (H : Hp) (Q : VK) : Prop := ∃ l : List Sq40.Span, TRok C.S C.T H r ∧ Pure r.es l ∧ LamX.Tabs T H ∧
  ∀ (H' : Hp) (q : Addr), LamX.ExtN H H' → LamX.Tabs T H' → NL H q → H' q = some (.lst ((ans (o l)).map V.int)) → Q (.ref q) H'
theorem Tells.one {o : List Sq40.Span → Sq40.Out} {H : Hp} {Q : VK} {l : List Sq40.Span} {z : Int} (tabs : LamX.Tabs T H) (k : ∀ (H' : Hp) (q : Addr), LamX.ExtN H H' → LamX.Tabs T H' → NL H q → H' q = some (.lst ((ans (o l)).map V.int)) → Q (.ref q) H')
    (e : o l = Sq40.says z) {H1 : Hp} (s : Same H H1) {q : Addr} (hq : H1 q = none) : Q (.ref q) (upd H1 q (.lst [.int z])) := by
  have s2 : Same H (upd H1 q (.lst [.int z])) := s.trans (sameUpd hq)
  refine k _ q (LamX.ExtN.of s2) (tabs.ext s2) (NL.of (s.free hq)) ?_
  rw [upd_same, e]
  rfl
/-! ### tree_reply -/
def spTreeReply (C : Cl) (T : List (Addr × Str)) : Sp := fun vs H Q _ => ∃ r : TR, vs = [.ref r.a] ∧ Tells C T oTree r H Q
theorem scTreeReply : FnScope ["trace", "answer", "row"] ["trace"] (defScope sTreeReply) := ⟨rfl, rfl, rfl, by decide +kernel, rfl, by decide +kernel, by decide +kernel⟩
theorem ok_treeReply {f f1 f2 : Addr} {fd fd1 fd2 : FuncData} (F : Fun K "tree_reply" "tree_reply" sTreeReply f fd) (TS : TxtS K mg C.S)
    (G1 : FnOk P w K mg base CX0 4 f1 fd1 ["trace"] (spIsWhole C.S C.T)) (g1 : mg "is_whole" = some (.ref f1)) (k1 : PySem.W.keepIn K (.ref f1) = true) (b1 : Binds K fd1 ["trace"] [])
    (G2 : FnOk P w K mg base CX0 3 f2 fd2 ["trace"] (spTreeRows C.S C.T)) (g2 : mg "tree_rows" = some (.ref f2)) (k2 : PySem.W.keepIn K (.ref f2) = true) (b2 : Binds K fd2 ["trace"] []) :
    FnOk P w K mg base CX0 5 f fd ["trace"] (spTreeReply C T) := by
  refine F.ok scTreeReply (fun vs H Q E h => ?_) (fun cdv A outer s H vs Q E hr h => ?_)
  · obtain ⟨r, rfl, _⟩ := h
    rfl
  · have hr3 : Room 3 (A.deeper (envOfC "tree_reply" (defScope sTreeReply) s.heap.objs.size f cdv)) := hr.mono (by decide)
    refine ⟨_, pss_cons (ps_set (i := 1) scTreeReply.nd rfl (Or.inl rfl) (pe_lst (pa_cons (pe_ifExp (pt_val (pe_call G1 hr rfl g1 k1 b1 .nil pass0 (pa_cons (pv 0) pa_nil))) pe_int pe_int) pa_nil)))
      (pss_cons (ps_for PassesOwn.never rfl (pi_list (pe_call G2 hr3 rfl g2 k2 b2 .nil pass0 (pa_cons (pv 0) pa_nil))) (pg_name (i := 2) scTreeReply.nd rfl (Or.inl rfl))
        (pss_one (ps_expr (pe_bm PySem.F.plainAttrs_list PySem.F.slot_list_extend PySem.F.type_list_extend mt_extend (pv 1) (pa_cons (pe_lst (pa_cons (pe_fld (pe_ix ix_tup (pv 2) pe_int (fun _ _ => rfl)) rfl) (pa_cons (pe_ix ix_tup (pv 2) pe_int (fun _ _ => rfl)) pa_nil))) pa_nil)))))
      (pss_one (ps_ret (pv 1)))), ?_⟩
    obtain ⟨r, rfl, l, okr, pu, tabs, k⟩ := h
    refine ⟨_, rfl, r, l, rfl, okr, pu, fun H1 s1 => ⟨_, rfl, ?_⟩⟩
    have ok1 := okr.same s1
    refine ifC ⟨by show 1 ≤ sizeLine; decide, fun q hq => ?_⟩
    have ez : (if (Sq40.whole l).isSome = true then V.int 1 else V.int 0) = V.int (if (Sq40.whole l).isSome = true then 1 else 0) := by split <;> rfl
    rw [ez]
    have eo : ans (oTree l) = (if (Sq40.whole l).isSome = true then (1 : Int) else 0) :: Sq40.ints ((Sq40.tree l).flatMap fun x => [x.1.id, x.2]) := rfl
    rw [eo] at k
    generalize (if (Sq40.whole l).isSome = true then (1 : Int) else 0) = z at k
    have sq := sameUpd (o := .lst [.int z]) hq
    refine ⟨_, rfl, r, l, rfl, ok1.same sq, pu, fun H2 p ps s2 hps hpin htp hp => ?_⟩
    have hq2 := s2 _ _ (show upd H1 q (.lst [.int z]) q = some (.lst [.int z]) from upd_same)
    have s12 := (s1.trans sq).trans s2
    have hqn : H q = none := s1.free hq
    have hpq : p ≠ q := fun c => by
      rw [c, hq2] at hp
      exact prf_ne (HO.lst.inj (Option.some.inj hp)).symm
    have lps : ps.length ≤ 60 := by
      have e1 : ps.length = (Sq40.tree l).length := by
        rw [← hps, List.length_map]
      rw [e1]
      exact Nat.le_trans (tree_len pu.srt) pu.few
    refine ⟨p, rfl, ⟨_, SqL.of hp⟩, for_list (K := K) (a := p) (xs := prf ps) (fun i σ H' => ∃ v4 : Option V, σ = [some (.ref r.a), some (.ref q), v4] ∧ Same H H' ∧ H' p = some (.lst (prf ps)) ∧ tups rwV H' ps ∧ H' q = some (.lst ((z :: (ps.take i).flatMap fun x => [(x.1.1.1.id : Int), (x.1.2 : Int)]).map V.int)))
      ⟨none, rfl, s12, hp, htp, hq2⟩ (fun i σ H' _ ⟨_, _, _, y, _⟩ => SqL.of y) ?_ ?_⟩
    · rintro i x σ H' hi ⟨v4, rfl, sH, hp', htp', hq'⟩
      obtain ⟨y, hy, rfl⟩ := at_map hi
      have ym := List.mem_of_getElem? hy
      have hty := htp' y ym
      obtain ⟨dy, hsy⟩ := (okr.same sH).spans y.1.1 (hpin y ym)
      refine ⟨_, rfl, .inl ⟨rfl, _, SqL.of hq'⟩, _, rfl, y.2, rwV y.1, 0, _, rfl, rfl, SqT.of hty, atI_nat (j := 0) rfl, y.1.1.2, C.S, dy, _, _, rfl, hsy, TS.cl, TS.nNumber, sF_number _, _, rfl, y.2, rwV y.1, 1, _, rfl, rfl, SqT.of hty, atI_nat (j := 1) rfl, by show 2 ≤ sizeLine; decide, fun q2 hq2' => ?_⟩
      have s2' := sameUpd (o := .lst [.int (y.1.1.1.id : Int), .int (y.1.2 : Int)]) hq2'
      have q5 := s2' _ _ hq'
      refine ⟨q, q2, _, _, rfl, rfl, q5, upd_same, ?_, some (.ref y.2), rfl, samePut (sH.trans s2') hqn, ?_, (htp'.same s2').lst q5, ?_⟩
      · have hl : ((ps.take i).flatMap fun x => [(x.1.1.1.id : Int), (x.1.2 : Int)]).length ≤ 120 := by
          rw [len_flat2, List.length_take]
          omega
        rw [List.length_map, List.length_cons]
        exact Nat.le_trans (show _ + 1 + 2 ≤ 123 by omega) (by decide)
      · rw [upd_ne hpq]
        exact s2' _ _ hp'
      · rw [upd_same, take_more hy, List.flatMap_append, List.flatMap_cons, List.flatMap_nil, List.append_nil, ← List.cons_append, List.map_append]
        rfl
    · rintro σ H' ⟨v4, rfl, sH, hp', htp', hq'⟩
      refine ⟨_, rfl, ?_⟩
      have el : (prf ps).length = ps.length := prf_len ps
      rw [el, List.take_length] at hq'
      refine k H' q (LamX.ExtN.of sH) (tabs.ext sH) (NL.of hqn) ?_
      rw [hq']
      refine congrArg (fun y : List Int => some (HO.lst (y.map V.int))) ?_
      rw [← hps, List.flatMap_map]
      unfold Sq40.ints
      rw [List.map_flatMap]
      rfl
/-! ### alone_reply -/
def spAloneReply (C : Cl) (T : List (Addr × Str)) : Sp := fun vs H Q _ => ∃ (r : TR) (i : Nat), vs = [.ref r.a, .int i] ∧ Tells C T (oAlone i) r H Q
theorem scAloneReply : FnScope ["trace", "number"] ["trace", "number"] (defScope sAloneReply) := ⟨rfl, rfl, rfl, by decide +kernel, rfl, by decide +kernel, by decide +kernel⟩
theorem ok_aloneReply {f f1 : Addr} {fd fd1 : FuncData} (F : Fun K "alone_reply" "alone_reply" sAloneReply f fd) (TT : TxtT K mg C.T) (TH : TxtH K mg C.H)
    (G1 : FnOk P w K mg base CX0 4 f1 fd1 ["trace", "span"] (spMoments T C.S C.T)) (g1 : mg "moments_alone" = some (.ref f1)) (k1 : PySem.W.keepIn K (.ref f1) = true) (b1 : Binds K fd1 ["trace", "span"] []) :
    FnOk P w K mg base CX0 5 f fd ["trace", "number"] (spAloneReply C T) := by
  obtain ⟨t2, e2⟩ := TH.nospan
  refine F.ok scAloneReply (fun vs H Q E h => ?_) (fun cdv A outer s H vs Q E hr h => ?_)
  · obtain ⟨r, i, rfl, _⟩ := h
    rfl
  · have hu := hu_of hr
    refine ⟨_, pss_cons (ps_if (pt_cmp (pc_dnotin hu (pv 1) (pe_fld (pv 0) rfl))) (pss_one (ps_ret (pe_lst (pa_cons (pe_glob (v := .int (-3)) rfl e2 ⟨_, rfl⟩) pa_nil)))) pss_nil)
      (pss_one (ps_ret (pe_lst (pa_cons (pe_call G1 hr rfl g1 k1 b1 .nil pass0 (pa_cons (pv 0) (pa_cons (pe_dget hu (pe_fld (pv 0) rfl) (pv 1) (fun _ _ => rfl)) pa_nil))) pa_nil)))), ?_⟩
    obtain ⟨r, i, rfl, l, okr, pu, tabs, k⟩ := h
    refine ⟨_, rfl, _, rfl, r.a, C.T, r.dx, _, _, rfl, okr.ins, TT.cl, TT.nSpans, tF_spans r, r.ds, _, rfl, DGet.k (k := Sum.inl (i : Int)) okr.dict, _, rfl, ?_⟩
    by_cases ey : ∃ e ∈ r.es, e.1.id = i
    · obtain ⟨e, em, rfl⟩ := ey
      have ve := pu.valV em
      rw [ve]
      have dge := DGet.k (k := Sum.inl (e.1.id : Int)) okr.dict
      rw [ve] at dge
      have y0 : e.1 ∈ l := pu.perm.mem_iff.mp (List.mem_map.mpr ⟨e, em, rfl⟩)
      have eo : oAlone e.1.id l = Sq40.says (Sq40.alone l e.1) := by
        unfold oAlone
        rw [find_some pu.srt y0]
      refine iteF ⟨_, rfl, _, rfl, r.a, C.T, r.dx, _, _, rfl, okr.ins, TT.cl, TT.nSpans, tF_spans r, _, rfl, r.ds, _, rfl, dge, r, l, e, rfl, okr, pu, em, tabs, fun H1 s1 tb1 => ⟨by show 1 ≤ sizeLine; decide, fun q hq => ?_⟩⟩
      have sq := sameUpd (o := .lst [.int (Sq40.alone l e.1 : Nat)]) hq
      refine k _ q (s1.trans (LamX.ExtN.of sq)) (tb1.ext sq) (NL.ext s1 hq) ?_
      rw [upd_same, eo]
      rfl
    · have hne : ∀ e ∈ r.es, e.1.id ≠ i := fun e he z => ey ⟨e, he, z⟩
      have hno : ∀ y ∈ l, y.id ≠ i := fun y hy => by
        obtain ⟨e0, h0, rfl⟩ := List.mem_map.mp (pu.perm.mem_iff.mpr hy)
        exact hne e0 h0
      have eo : oAlone i l = Sq40.says (-3) := by
        unfold oAlone
        rw [find_none hno]
      rw [kvS_no hne]
      exact iteT ⟨by show 1 ≤ sizeLine; decide, fun q hq => Tells.one tabs k eo (Same.refl H) hq⟩
/-! ### path_reply -/
def spPathReply (C : Cl) (T : List (Addr × Str)) : Sp := fun vs H Q _ => ∃ r : TR, vs = [.ref r.a] ∧ Tells C T oPath r H Q
theorem scPathReply : FnScope ["trace", "stretch"] ["trace"] (defScope sPathReply) := ⟨rfl, rfl, rfl, by decide +kernel, rfl, by decide +kernel, by decide +kernel⟩
def pathRow (p : Prt × Addr) : List Int := [(p.1.1.1.id : Int), (p.1.2.1 : Int), (p.1.2.2 : Int)]
theorem ok_pathReply {f f1 f2 fc : Addr} {fd fd1 fd2 fdc : FuncData} (F : Fun K "path_reply" "path_reply" sPathReply f fd) (TS : TxtS K mg C.S) (TH : TxtH K mg C.H)
    (G1 : FnOk P w K mg base CX0 4 f1 fd1 ["trace"] (spIsWhole C.S C.T)) (g1 : mg "is_whole" = some (.ref f1)) (k1 : PySem.W.keepIn K (.ref f1) = true) (b1 : Binds K fd1 ["trace"] [])
    (G2 : FnOk P w K mg base CX0 3 f2 fd2 ["trace"] (spHung C.S C.T)) (g2 : mg "hung_stretches" = some (.ref f2)) (k2 : PySem.W.keepIn K (.ref f2) = true) (b2 : Binds K fd2 ["trace"] [])
    (Gc : FnOk P w K mg base CX0 1 fc fdc ["rows"] spCounted) (gc : mg "counted" = some (.ref fc)) (kc : PySem.W.keepIn K (.ref fc) = true) (bc : Binds K fdc ["rows"] []) :
    FnOk P w K mg base CX0 5 f fd ["trace"] (spPathReply C T) := by
  obtain ⟨t2, e2⟩ := TH.notwhole
  refine F.ok scPathReply (fun vs H Q E h => ?_) (fun cdv A outer s H vs Q E hr h => ?_)
  · obtain ⟨r, rfl, _⟩ := h
    rfl
  · have hr3 : Room 3 (A.deeper (envOfC "path_reply" (defScope sPathReply) s.heap.objs.size f cdv)) := hr.mono (by decide)
    have hr1 : Room 1 (A.deeper (envOfC "path_reply" (defScope sPathReply) s.heap.objs.size f cdv)) := hr.mono (by decide)
    refine ⟨_, pss_cons (ps_if (pt_not (pt_val (pe_call G1 hr rfl g1 k1 b1 .nil pass0 (pa_cons (pv 0) pa_nil)))) (pss_one (ps_ret (pe_lst (pa_cons (pe_glob (v := .int (-6)) rfl e2 ⟨_, rfl⟩) pa_nil)))) pss_nil)
      (pss_one (ps_ret (pe_call Gc hr1 rfl gc kc bc .nil pass0 (pa_cons
        (pe_lc (own := [("stretch", 1)]) (g := gName 1) (tt := tYes) (te := tTup (tCons (tFld K (tOp (rIxT K) (tVar 1) (tC (.int 0))) "number") (tCons (tOp (rIxT K) (tVar 1) (tC (.int 1))) (tCons (tOp (rIxT K) (tVar 1) (tC (.int 2))) tNil)))) rfl scPathReply.nd (pi_list (pe_call G2 hr3 rfl g2 k2 b2 .nil pass0 (pa_cons (pv 0) pa_nil)))
          (blkOk_by (N := ["trace", "stretch"]) (sc := defScope sPathReply) (by decide +kernel)) (fun _ _ _ _ _ => pg_name (i := 1) scPathReply.nd rfl (Or.inl rfl))
          (fun _ _ _ _ _ => pts_nil) (fun _ _ _ _ _ => pe_tup (pa_cons (pe_fld (pe_ix ix_tup (pv 1) pe_int (fun _ _ => rfl)) rfl) (pa_cons (pe_ix ix_tup (pv 1) pe_int (fun _ _ => rfl)) (pa_cons (pe_ix ix_tup (pv 1) pe_int (fun _ _ => rfl)) pa_nil))))) pa_nil)))), ?_⟩
    obtain ⟨r, rfl, l, okr, pu, tabs, k⟩ := h
    refine ⟨_, rfl, r, l, rfl, okr, pu, fun H1 s1 => ⟨_, rfl, ?_⟩⟩
    have ok1 := okr.same s1
    cases hw : Sq40.whole l with
    | none =>
      have eo : oPath l = Sq40.says (-6) := by
        unfold oPath
        rw [hw]
      exact iteT ⟨by show 1 ≤ sizeLine; decide, fun q hq => Tells.one tabs k eo s1 hq⟩
    | some x0 =>
      have hroot := whole_root hw
      have hv : ∀ y ∈ l, y.from_ < y.to := fun y hy => (pu.val y hy).1
      have hx0 : Dep l 0 x0 := by
        have : x0 ∈ Sq40.roots l := by rw [hroot]; exact List.mem_singleton.mpr rfl
        exact mem_roots.mp this
      have pof := pathOf_is pu.srt hv hx0
      have eo : ans (oPath l) = ((Sq40.pathOf l x0).length : Int) :: Sq40.ints ((Sq40.pathOf l x0).flatMap fun p => [p.id, p.from_, p.to]) := by
        unfold oPath
        rw [hw]
        rfl
      refine iteF ⟨_, rfl, r, l, x0, rfl, ok1, pu, hroot, fun H2 p ps s2 hps hpin htp hp => ?_⟩
      have lps : ps.length ≤ 1000000 := by
        have e1 : ps.length = (walkX l x0 x0.from_ x0.to).1.length := by
          rw [← hps, List.length_map]
        have e2 := walk_len hv (x0.to - x0.from_ + l.length + 1) x0 x0.from_ x0.to
        have e3 := (pu.val x0 hx0.1).2.1
        unfold walkX at e1
        omega
      refine ⟨p, rfl, ⟨_, SqL.of hp⟩, fun D hD => ?_⟩
      refine lc_listTups (K := K) (es := ps) (fun p => V.ref p.2) (fun p => (pathRow p).map V.int) (SqL.of hp) hD (Nat.lt_of_le_of_lt lps (by decide)) ?_ ?_
      · intro y ym H' s5 A' B' h1
        have hty := s5 _ _ (htp y ym)
        obtain ⟨dy, hsy⟩ := ((ok1.same s2).same s5).spans y.1.1 (hpin y ym)
        exact ⟨rfl, yes_if ⟨_, rfl, y.2, ptV y.1, 0, _, rfl, rfl, SqT.of hty, atI_nat (j := 0) rfl, y.1.1.2, C.S, dy, _, _, rfl, hsy, TS.cl, TS.nNumber, sF_number _, _, rfl, y.2, ptV y.1, 1, _, rfl, rfl, SqT.of hty, atI_nat (j := 1) rfl, _, rfl, y.2, ptV y.1, 2, _, rfl, rfl, SqT.of hty, atI_nat (j := 2) rfl, by show 3 ≤ sizeLine; decide, fun q hq => h1 q hq⟩⟩
      · intro H6 qs s6 hqs htq hD6
        have lqs : qs.length = ps.length := by rw [← hqs, List.length_map]
        refine ⟨D, Prt × Addr, pathRow, qs, rfl, hD6, htq, ?_, fun H7 q s7 hq7 hq => ?_⟩
        · refine Nat.le_trans (Nat.le_of_eq (congrArg (· + 1) (flat_len (f := pathRow) (n := 3) (fun _ => rfl) qs))) ?_
          exact Nat.le_trans (show 3 * qs.length + 1 ≤ 3000001 by omega) (by decide)
        have sA := ((s1.trans s2).trans s6).trans s7
        refine k H7 q (LamX.ExtN.of sA) (tabs.ext sA) (NL.of (((s1.trans s2).trans s6).free hq7)) ?_
        rw [hq, eo]
        refine congrArg (fun y : List Int => some (HO.lst (y.map V.int))) ?_
        rw [pof, ← hps, ← hqs, List.map_map, List.map_map, List.length_map, List.flatMap_map]
        congr 1
        unfold Sq40.ints
        rw [List.map_flatMap]
        rfl
end
end Tr
namespace Tr
open PySem PySem.Spec PyProof.Rows L2
abbrev sFaultsOf : Stmt := top 9
abbrev sTimes : Stmt := top 13
abbrev sHungReply : Stmt := top 21
abbrev sFaultsReply : Stmt := top 22
/-! ### dicts that count -/
section
variable {α κ : Type} [DecidableEq α] [DecidableEq κ] {g : α → κ}
def kvG (g : α → κ) (f : α → Nat) (ks : List α) : List (κ × V) := ks.map fun a => (g a, V.int (f a))
theorem kvG_val (inj : ∀ a b, g a = g b → a = b) (f : α → Nat) (a : α) : ∀ ks : List α, valV (kvG g f ks) (g a) = if a ∈ ks then some (.int (f a)) else none
  | [] => rfl
  | b :: ks => by
    unfold kvG
    rw [List.map_cons]
    by_cases c : b = a
    · subst c
      rw [valV_pos rfl, if_pos List.mem_cons_self]
    · rw [valV_neg (fun z => c (inj b a z))]
      have ih := kvG_val inj f a ks
      unfold kvG at ih
      rw [ih]
      by_cases d : a ∈ ks
      · rw [if_pos d, if_pos (List.mem_cons_of_mem _ d)]
      · rw [if_neg d, if_neg (fun z => by rcases List.mem_cons.mp z with z | z; exact c z.symm; exact d z)]
theorem kvG_put (inj : ∀ a b, g a = g b → a = b) {f f' : α → Nat} {a : α} {v : Nat} (h1 : f' a = v) (h2 : ∀ b, b ≠ a → f' b = f b) (ks : List α) : putK (kvG g f ks) (g a) (.int v) = kvG g f' (more ks a) := by
  unfold putK
  rw [valV_any, kvG_val inj]
  unfold more
  by_cases c : a ∈ ks
  · rw [if_pos c, if_pos c]
    show (if true = true then _ else _) = _
    rw [if_pos rfl]
    unfold kvG
    rw [List.map_map]
    refine List.map_congr_left fun b _ => ?_
    show (if g b = g a then (g b, V.int v) else (g b, V.int (f b))) = (g b, V.int (f' b))
    by_cases d : b = a
    · subst d
      rw [if_pos rfl, h1]
    · rw [if_neg (fun z => d (inj b a z)), h2 b d]
  · rw [if_neg c, if_neg c]
    show (if false = true then _ else _) = _
    rw [if_neg (by decide)]
    unfold kvG
    rw [List.map_append]
    congr 1
    · refine List.map_congr_left fun b hb => ?_
      rw [h2 b fun z => c (z ▸ hb)]
    · show [(g a, V.int v)] = [(g a, V.int (f' a))]
      rw [h1]
theorem kvG_get (inj : ∀ a b, g a = g b → a = b) {evs : List (α × Nat)} {ks : List α} (h : Seen evs ks) (a : α) : (valV (kvG g (tot evs) ks) (g a)).getD (.int 0) = .int (tot evs a) := by
  rw [kvG_val inj]
  by_cases c : a ∈ ks
  · rw [if_pos c]
    rfl
  · rw [if_neg c, h.zero c]
    rfl
theorem kvG_step (inj : ∀ a b, g a = g b → a = b) (evs : List (α × Nat)) (ks : List α) (e : α × Nat) : putK (kvG g (tot evs) ks) (g e.1) (.int ((tot evs e.1 + e.2 : Nat) : Int)) = kvG g (tot (evs ++ [e])) (more ks e.1) := by
  refine kvG_put inj ?_ (fun b hb => ?_) ks
  · rw [tot_snoc, if_pos rfl]
  · rw [tot_snoc, if_neg (fun z => hb z.symm)]
    omega
theorem kvG_len (g : α → κ) (f : α → Nat) (ks : List α) : (kvG g f ks).length = ks.length := by
  unfold kvG
  rw [List.length_map]
end
def gN (s : Nat) : Key := Sum.inl (s : Int)
theorem gN_inj (a b : Nat) (h : gN a = gN b) : a = b := by
  have := Sum.inl.inj h
  omega
theorem gN_keys (f : Nat → Nat) (ks : List Nat) : (kvG gN f ks).map (·.1) = (ks.map fun (s : Nat) => (s : Int)).map Sum.inl := by
  unfold kvG
  rw [List.map_map, List.map_map]
  rfl
section
variable {P : Program} {w : World} {K : PySem.W.Frag} {mg : Str → Option Value} {base : Heap} {C : Cl} {T : List (Addr × Str)}
/-! ### faults_of -/
abbrev spFaultsOf (CS CT : Addr) : Sp := spPick CS CT (fun r => [.ref r.a]) Sq40.faults
theorem scFaultsOf : FnScope ["trace", "failures", "blamed_on", "span"] ["trace"] (defScope sFaultsOf) := ⟨rfl, rfl, rfl, by decide +kernel, rfl, by decide +kernel, by decide +kernel⟩
theorem blamed {x : Sq40.Span} (es : List (Sq40.Span × Addr)) : inV (.int ((x.id : Int) + 1)) (es.map fun e => V.int (wI e.1.up)) = ((es.map (·.1)).any fun y => y.up == some x.id) := by
  unfold inV
  rw [List.any_map, List.any_map]
  congr 1
  funext e
  show (wI e.1.up == (x.id : Int) + 1) = (e.1.up == some x.id)
  have h := wI_kid e.1.up x.id
  rw [← h]
  by_cases c : wI e.1.up = (x.id : Int) + 1
  · rw [decide_eq_true (by rw [c]), c]
    simp
  · rw [decide_eq_false (fun z => c (V.int.inj z))]
    simpa using c
theorem ok_faultsOf {f f1 : Addr} {fd fd1 : FuncData} (F : Fun K "faults_of" "faults_of" sFaultsOf f fd) (TS : TxtS K mg C.S) (TT : TxtT K mg C.T)
    (G : FnOk P w K mg base CX0 1 f1 fd1 ["self"] (spInOrder C.S C.T)) (m1 : Meth K C.T "in_order" f1) (b1 : Binds K fd1 ["self"] []) :
    FnOk P w K mg base CX0 2 f fd ["trace"] (spFaultsOf C.S C.T) := by
  refine F.ok scFaultsOf (fun vs H Q E h => ?_) (fun cdv A outer s H vs Q E hr h => ?_)
  · obtain ⟨r, l, rfl, _⟩ := h
    rfl
  · have hu := hu_of hr
    refine ⟨_, pss_cons (ps_setLc (i := 1) (own := [("span", 3)]) (g := gName 3) (tt := tB (tFld K (tVar 3) "failed")) (te := tVar 3) rfl scFaultsOf.nd rfl rfl (sw_true rfl rfl rfl (by decide +kernel))
        (pi_list (pe_meth0 (pv 0) TT.cl m1 G hr b1 .nil pass0))
        (blkOk_by (N := ["trace", "failures", "blamed_on", "span"]) (sc := defScope sFaultsOf) (by decide +kernel)) (fun _ _ _ _ _ => pg_name (i := 3) scFaultsOf.nd rfl (Or.inl rfl))
        (fun _ _ _ _ _ => pts_one (pt_val (pe_fld (pv 3) rfl))) (fun _ _ _ _ _ => pv 3))
      (pss_cons (ps_set (i := 2) scFaultsOf.nd rfl (Or.inr rfl) (pe_lc (own := [("span", 3)]) (g := gName 3) (tt := tYes) (te := tFld K (tVar 3) "within") rfl scFaultsOf.nd (pi_list (pv 1))
        (blkOk_by (N := ["trace", "failures", "blamed_on", "span"]) (sc := defScope sFaultsOf) (by decide +kernel)) (fun _ _ _ _ _ => pg_name (i := 3) scFaultsOf.nd rfl (Or.inl rfl))
        (fun _ _ _ _ _ => pts_nil) (fun _ _ _ _ _ => pe_fld (pv 3) rfl)))
      (pss_one (ps_ret (pe_lc (own := [("span", 3)]) (g := gName 3) (tt := tTest (tOp (rIn K true) (tOp (rI0 fun i j => .int (i + j)) (tFld K (tVar 3) "number") (tC (.int 1))) (tVar 2))) (te := tVar 3) rfl scFaultsOf.nd (pi_list (pv 1))
        (blkOk_by (N := ["trace", "failures", "blamed_on", "span"]) (sc := defScope sFaultsOf) (by decide +kernel)) (fun _ _ _ _ _ => pg_name (i := 3) scFaultsOf.nd rfl (Or.inl rfl))
        (fun _ _ _ _ _ => pts_one (pt_cmpR op_notIn_seq (pe_op op_add (pe_fld (pv 3) rfl) pe_int) (pv 2) (by rfl))) (fun _ _ _ _ _ => pv 3))))), ?_⟩
    obtain ⟨r, l, rfl, ok, pu, k⟩ := h
    refine ⟨_, rfl, r.a, r.dx, _, rfl, ok.ins, tF_none r (by decide +kernel), r, l, rfl, ok, pu, fun H1 p es s1 hm hin hn hp => ?_⟩
    refine ⟨p, rfl, ⟨_, SqL.of hp⟩, fun D hD => ?_⟩
    refine lc_listPick (K := K) (es := es) (fun e => V.ref e.2) (fun e => V.ref e.2) (fun e => e.1.failed) (SqL.of hp) hD (few_lt hm pu.few) ?_ ?_
    · intro e he H' s2 A B ha hb
      obtain ⟨dx, hsp⟩ := ((ok.same s1).same s2).spans e (hin e he)
      refine ⟨rfl, ⟨_, rfl, e.2, C.S, dx, _, _, rfl, hsp, TS.cl, TS.nFailed, sF_failed _, _, rfl, ?_⟩⟩
      cases c : e.1.failed with
      | true => exact iteT ⟨_, rfl, ha c⟩
      | false => exact iteF (hb c)
    intro H2 s2 hd
    have hm2 : (es.filter fun e => e.1.failed).map (·.1) = l.filter fun x => x.failed := filter_fst (p := fun x => x.failed) hm
    have hin2 : ∀ e ∈ es.filter (fun e => e.1.failed), e ∈ r.es := fun e he => hin e (List.mem_filter.mp he).1
    have few2 : (es.filter fun e => e.1.failed).length < sizeLine := Nat.lt_of_le_of_lt (List.length_filter_le _ _) (few_lt hm pu.few)
    generalize es.filter (fun e => e.1.failed) = fs at hd hm2 hin2 few2
    have s12 := s1.trans s2
    refine ⟨_, rfl, D, rfl, ⟨_, SqL.of hd⟩, fun D2 hD2 => ?_⟩
    refine lc_listPick (K := K) (es := fs) (fun e => V.ref e.2) (fun e => V.int (wI e.1.up)) (fun _ => true) (SqL.of hd) hD2 few2 ?_ ?_
    · intro e he H' s3 A B ha hb
      obtain ⟨dx, hsp⟩ := ((ok.same s12).same s3).spans e (hin2 e he)
      exact ⟨rfl, yes_if ⟨_, rfl, e.2, C.S, dx, _, _, rfl, hsp, TS.cl, TS.nWithin, sF_within _, ha rfl⟩⟩
    intro H3 s3 hd3
    rw [filter_all] at hd3
    have s13 := s12.trans s3
    refine ⟨_, rfl, D, rfl, ⟨_, SqL.of (s3 _ _ hd)⟩, fun D3 hD3 => ?_⟩
    refine lc_listPick (K := K) (es := fs) (fun e => V.ref e.2) (fun e => V.ref e.2) (fun e => !((fs.map (·.1)).any fun y => y.up == some e.1.id)) (SqL.of (s3 _ _ hd)) hD3 few2 ?_ ?_
    · intro e he H' s4 A B ha hb
      obtain ⟨dx, hsp⟩ := ((ok.same s13).same s4).spans e (hin2 e he)
      refine ⟨rfl, ⟨_, rfl, e.2, C.S, dx, _, _, rfl, hsp, TS.cl, TS.nNumber, sF_number _, _, _, rfl, rfl, _, rfl, D2, _, rfl, .inl (SqL.of (s4 _ _ hd3)), rfl, ?_, _, rfl, ?_⟩⟩
      · rw [List.all_map]
        exact List.all_eq_true.mpr fun _ _ => rfl
      show (if (!inV (.int ((e.1.id : Int) + 1)) (fs.map fun e => V.int (wI e.1.up))) = true then _ else _)
      rw [blamed]
      cases c : !((fs.map (·.1)).any fun y => y.up == some e.1.id) with
      | true => exact iteT ⟨_, rfl, ha c⟩
      | false => exact iteF (hb c)
    · intro H4 s4 hd4
      refine k H4 D3 _ (s13.trans s4) ?_ (fun e he => hin2 e (List.mem_filter.mp he).1) (s13.free hD3) hd4
      rw [faults_is, ← hm2, List.filter_map]
      rfl
/-! ### faults_reply -/
def spFaultsReply (C : Cl) (T : List (Addr × Str)) : Sp := fun vs H Q _ => ∃ r : TR, vs = [.ref r.a] ∧ Tells C T oFaults r H Q
theorem scFaultsReply : FnScope ["trace", "span"] ["trace"] (defScope sFaultsReply) := ⟨rfl, rfl, rfl, by decide +kernel, rfl, by decide +kernel, by decide +kernel⟩
def idRow (e : Sq40.Span × Addr) : List Int := [(e.1.id : Int)]
theorem ok_faultsReply {f f1 fc : Addr} {fd fd1 fdc : FuncData} (F : Fun K "faults_reply" "faults_reply" sFaultsReply f fd) (TS : TxtS K mg C.S)
    (G1 : FnOk P w K mg base CX0 2 f1 fd1 ["trace"] (spFaultsOf C.S C.T)) (g1 : mg "faults_of" = some (.ref f1)) (k1 : PySem.W.keepIn K (.ref f1) = true) (b1 : Binds K fd1 ["trace"] [])
    (Gc : FnOk P w K mg base CX0 1 fc fdc ["rows"] spCounted) (gc : mg "counted" = some (.ref fc)) (kc : PySem.W.keepIn K (.ref fc) = true) (bc : Binds K fdc ["rows"] []) :
    FnOk P w K mg base CX0 3 f fd ["trace"] (spFaultsReply C T) := by
  refine F.ok scFaultsReply (fun vs H Q E h => ?_) (fun cdv A outer s H vs Q E hr h => ?_)
  · obtain ⟨r, rfl, _⟩ := h
    rfl
  · have hr1 : Room 1 (A.deeper (envOfC "faults_reply" (defScope sFaultsReply) s.heap.objs.size f cdv)) := hr.mono (by decide)
    refine ⟨_, pss_one (ps_ret (pe_call Gc hr1 rfl gc kc bc .nil pass0 (pa_cons
        (pe_lc (own := [("span", 1)]) (g := gName 1) (tt := tYes) (te := tTup (tCons (tFld K (tVar 1) "number") tNil)) rfl scFaultsReply.nd (pi_list (pe_call G1 hr rfl g1 k1 b1 .nil pass0 (pa_cons (pv 0) pa_nil)))
          (blkOk_by (N := ["trace", "span"]) (sc := defScope sFaultsReply) (by decide +kernel)) (fun _ _ _ _ _ => pg_name (i := 1) scFaultsReply.nd rfl (Or.inl rfl))
          (fun _ _ _ _ _ => pts_nil) (fun _ _ _ _ _ => pe_tup (pa_cons (pe_fld (pv 1) rfl) pa_nil))) pa_nil))), ?_⟩
    obtain ⟨r, rfl, l, okr, pu, tabs, k⟩ := h
    refine ⟨_, rfl, r, l, rfl, okr, pu, fun H1 p es s1 hm hin hn hp => ?_⟩
    replace hm : es.map (·.1) = Sq40.faults l := hm
    have les : es.length ≤ 60 := by
      have h1 : es.length = (Sq40.faults l).length := by rw [← hm, List.length_map]
      rw [h1]
      exact Nat.le_trans (List.length_filter_le _ _) pu.few
    refine ⟨p, rfl, ⟨_, SqL.of hp⟩, fun D hD => ?_⟩
    refine lc_listTups (K := K) (es := es) (fun e => V.ref e.2) (fun e => (idRow e).map V.int) (SqL.of hp) hD (Nat.lt_of_le_of_lt les (by decide)) ?_ ?_
    · intro e he H' s5 A' B' h1
      obtain ⟨dy, hsy⟩ := ((okr.same s1).same s5).spans e (hin e he)
      exact ⟨rfl, yes_if ⟨_, rfl, e.2, C.S, dy, _, _, rfl, hsy, TS.cl, TS.nNumber, sF_number _, by show 1 ≤ sizeLine; decide, fun q hq => h1 q hq⟩⟩
    · intro H6 qs s6 hqs htq hD6
      have lqs : qs.length = es.length := by rw [← hqs, List.length_map]
      refine ⟨D, Sq40.Span × Addr, idRow, qs, rfl, hD6, htq, ?_, fun H7 q s7 hq7 hq => ?_⟩
      · refine Nat.le_trans (Nat.le_of_eq (congrArg (· + 1) (flat_len (f := idRow) (n := 1) (fun _ => rfl) qs))) ?_
        exact Nat.le_trans (show 1 * qs.length + 1 ≤ 61 by omega) (by decide)
      have sA := (s1.trans s6).trans s7
      refine k H7 q (LamX.ExtN.of sA) (tabs.ext sA) (NL.of ((s1.trans s6).free hq7)) ?_
      rw [hq]
      refine congrArg (fun y : List Int => some (HO.lst (y.map V.int))) ?_
      show _ = ((Sq40.faults l).length : Int) :: Sq40.ints ((Sq40.faults l).map fun x => x.id)
      rw [← hm, ← hqs, List.map_map, List.map_map, List.length_map]
      congr 1
      unfold Sq40.ints
      rw [List.map_map]
      have : ∀ z : List ((Sq40.Span × Addr) × Addr), (z.flatMap fun x => idRow x.1) = z.map fun x => (x.1.1.id : Int) := fun z => by
        induction z with
        | nil => rfl
        | cons y z ih =>
          rw [List.flatMap_cons, List.map_cons, ih]
          rfl
      exact this qs
/-! ### time_by_service -/
def tmRow (x : Nat × Nat) : List Int := [(x.1 : Int), (x.2 : Int)]
def spTimes (CS CT : Addr) : Sp := fun vs H Q _ => ∃ (r : TR) (l : List Sq40.Span) (x0 : Sq40.Span), vs = [.ref r.a] ∧ TRok CS CT H r ∧ Pure r.es l ∧ Sq40.roots l = [x0] ∧
  ∀ (H' : Hp) (q : Addr) (ps : List ((Nat × Nat) × Addr)), Same H H' → ps.map (·.1) = Sq40.hung l (Sq40.pathOf l x0) → ps.length ≤ 16 → tups (fun x => (tmRow x).map V.int) H' ps → H' q = some (.lst (prf ps)) → Q (.ref q) H'
theorem scTimes : FnScope ["trace", "times", "stretch", "service"] ["trace"] (defScope sTimes) := ⟨rfl, rfl, rfl, by decide +kernel, rfl, by decide +kernel, by decide +kernel⟩
theorem ok_times {f f2 : Addr} {fd fd2 : FuncData} (F : Fun K "time_by_service" "time_by_service" sTimes f fd) (TS : TxtS K mg C.S) (N : TxtN mg)
    (G2 : FnOk P w K mg base CX0 3 f2 fd2 ["trace"] (spHung C.S C.T)) (g2 : mg "hung_stretches" = some (.ref f2)) (k2 : PySem.W.keepIn K (.ref f2) = true) (b2 : Binds K fd2 ["trace"] []) :
    FnOk P w K mg base CX0 4 f fd ["trace"] (spTimes C.S C.T) := by
  refine F.ok scTimes (fun vs H Q E h => ?_) (fun cdv A outer s H vs Q E hr h => ?_)
  · obtain ⟨r, l, x0, rfl, _⟩ := h
    rfl
  · have hu := hu_of hr
    refine ⟨_, pss_cons (ps_set (i := 1) scTimes.nd rfl (Or.inr rfl) pe_dnewK)
      (pss_cons (ps_for PassesOwn.never rfl (pi_list (pe_call G2 hr rfl g2 k2 b2 .nil pass0 (pa_cons (pv 0) pa_nil))) (pg_name (i := 2) scTimes.nd rfl (Or.inl rfl))
        (pss_cons (ps_set (i := 3) scTimes.nd rfl (Or.inl rfl) (pe_fld (pe_ix ix_tup (pv 2) pe_int (fun _ _ => rfl)) rfl))
        (pss_one (ps_dput hu (pv 1) (pv 3) (pe_op op_sub (pe_op op_add (pe_dget2 hu (pv 1) (pv 3) pe_int ⟨rfl, rfl, rfl, rfl⟩) (pe_ix ix_tup (pv 2) pe_int (fun _ _ => rfl))) (pe_ix ix_tup (pv 2) pe_int (fun _ _ => rfl))) rfl))))
      (pss_one (ps_ret (pe_lc (own := [("service", 3)]) (g := gName 3) (tt := tYes) (te := tTup (tCons (tVar 3) (tCons (tDGet (tVar 1) (tVar 3)) tNil))) rfl scTimes.nd (pi_list (pe_callB (call_sortedDI rfl) (by rfl) N.sorted (by decide +kernel) (pa_cons (pv 1) pa_nil)))
        (blkOk_by (N := ["trace", "times", "stretch", "service"]) (sc := defScope sTimes) (by decide +kernel)) (fun _ _ _ _ _ => pg_name (i := 3) scTimes.nd rfl (Or.inl rfl))
        (fun _ _ _ _ _ => pts_nil) (fun _ _ _ _ _ => pe_tup (pa_cons (pv 3) (pa_cons (pe_dget (by exact hu) (pv 1) (pv 3) (fun _ _ => rfl)) pa_nil))))))), ?_⟩
    obtain ⟨r, l, x0, rfl, okr, pu, hroot, k⟩ := h
    have hv : ∀ y ∈ l, y.from_ < y.to := fun y hy => (pu.val y hy).1
    have hx0 : Dep l 0 x0 := by
      have : x0 ∈ Sq40.roots l := by rw [hroot]; exact List.mem_singleton.mpr rfl
      exact mem_roots.mp this
    have pof := pathOf_is pu.srt hv hx0
    intro d hd
    have sd := sameUpd (o := .dK []) hd
    refine ⟨_, rfl, r, l, x0, rfl, okr.same sd, pu, hroot, fun H2 p ps s2 hps hpin htp hp => ?_⟩
    have hd2 : H2 d = some (.dK []) := s2 _ _ upd_same
    have wm := walk_mem hv (x0.to - x0.from_ + l.length + 1) x0 x0.from_ x0.to hx0.1
    have wm' : ∀ p ∈ ps.map ptM, p.1 ∈ l ∧ p.2.1 < p.2.2 := fun p hp => by
      rw [hps] at hp
      have := wm p hp
      exact ⟨this.1, this.2.2.1⟩
    have hd2n : ∀ b o, H2 b = some o → (∀ kvs, o ≠ .dK kvs) → b ≠ d := fun b o e c z => by
      rw [z, hd2] at e
      exact c _ (Option.some.inj e).symm
    have keep : ∀ {H' : Hp} {o : HO}, (∀ b, b ≠ d → ∀ o, H2 b = some o → H' b = some o) → ∀ b, b ≠ d → ∀ o', H2 b = some o' → upd H' d o b = some o' := fun {H' o} kk b hb o' e => by
      rw [upd_ne hb]
      exact kk b hb o' e
    have sv16 : ∀ q : List Part, (∀ p ∈ q, p ∈ ps.map ptM) → ∀ ks : List Nat, Seen (q.map svcEv) ks → ks.length ≤ 16 := fun q hq ks hks => few_below hks.nd fun s hs => by
      obtain ⟨e, he, rfl⟩ := (hks.mem s).mp hs
      obtain ⟨p, hp, rfl⟩ := List.mem_map.mp he
      exact (pu.val _ (wm' p (hq p hp)).1).2.2
    have hpd : p ≠ d := hd2n p _ hp (fun _ z => nomatch z)
    refine ⟨p, rfl, ⟨_, SqL.of hp⟩, for_list (K := K) (a := p) (xs := prf ps) (fun i σ H' => ∃ (v2 v3 : Option V) (ks : List Nat), σ = [some (.ref r.a), some (.ref d), v2, v3] ∧ (∀ b, b ≠ d → ∀ o, H2 b = some o → H' b = some o) ∧ Seen (((ps.take i).map ptM).map svcEv) ks ∧ H' d = some (.dK (kvG gN (tot (((ps.take i).map ptM).map svcEv)) ks)))
      ⟨none, none, [], rfl, fun _ _ _ e => e, Seen.nil, hd2⟩ (fun i σ H' _ ⟨_, _, _, _, kk, _⟩ => SqL.of (kk p hpd _ hp)) ?_ ?_⟩
    · rintro i x σ H' hi ⟨v2, v3, ks, rfl, kk, hks, hd'⟩
      obtain ⟨y, hy, rfl⟩ := at_map hi
      have ym := List.mem_of_getElem? hy
      have hty := kk y.2 (hd2n _ _ (htp y ym) (fun _ z => nomatch z)) _ (htp y ym)
      obtain ⟨dy, hsy2⟩ := ((okr.same sd).same s2).spans y.1.1 (hpin y ym)
      have hsy := kk _ (hd2n _ _ hsy2 (fun _ z => nomatch z)) _ hsy2
      have ptm : ∀ q : Prt × Addr, q ∈ ps.take i → ptM q ∈ ps.map ptM := fun q hq => List.mem_map.mpr ⟨q, List.mem_of_mem_take hq, rfl⟩
      refine ⟨_, rfl, y.2, ptV y.1, 0, _, rfl, rfl, SqT.of hty, atI_nat (j := 0) rfl, y.1.1.2, C.S, dy, _, _, rfl, hsy, TS.cl, TS.nService, sF_service _, ?_⟩
      have gt := kvG_get gN_inj hks y.1.1.1.service
      refine ⟨_, rfl, d, rfl, .inl ⟨_, .inl hd'⟩, _, rfl, _, DGet.k (k := gN y.1.1.1.service) hd', ?_⟩
      rw [gt]
      refine ⟨_, rfl, y.2, ptV y.1, 2, _, rfl, rfl, SqT.of hty, atI_nat (j := 2) rfl, _, _, rfl, rfl, _, rfl, y.2, ptV y.1, 1, _, rfl, rfl, SqT.of hty, atI_nat (j := 1) rfl, _, _, rfl, rfl, ?_⟩
      have pos := (wm' (ptM y) (List.mem_map.mpr ⟨y, ym, rfl⟩)).2
      have ev : (tot (((ps.take i).map ptM).map svcEv) y.1.1.1.service : Int) + (y.1.2.2 : Int) - (y.1.2.1 : Int) = ((tot (((ps.take i).map ptM).map svcEv) (svcEv (ptM y)).1 + (svcEv (ptM y)).2 : Nat) : Int) := by
        show _ = ((tot (((ps.take i).map ptM).map svcEv) y.1.1.1.service + (y.1.2.2 - y.1.2.1) : Nat) : Int)
        have pos' : y.1.2.1 < y.1.2.2 := pos
        omega
      have lk : (kvG gN (tot (((ps.take i).map ptM).map svcEv)) ks).length < sizeLine := by
        rw [kvG_len]
        exact Nat.lt_of_le_of_lt (sv16 _ (fun p hp => by obtain ⟨q, hq, rfl⟩ := List.mem_map.mp hp; exact ptm q hq) ks hks) (by decide)
      refine ⟨_, rfl, _, rfl, d, _, rfl, DPut.k (k := gN y.1.1.1.service) hd' lk, some (.ref y.2), some (.int y.1.1.1.service), more ks (svcEv (ptM y)).1, rfl, keep kk, ?_, ?_⟩
      · rw [take_more hy, List.map_append, List.map_append]
        exact hks.step _
      · rw [upd_same]
        have := kvG_step gN_inj (((ps.take i).map ptM).map svcEv) ks (svcEv (ptM y))
        rw [← ev] at this
        rw [take_more hy, List.map_append, List.map_append]
        exact congrArg (fun z => some (HO.dK z)) this
    · rintro σ H3 ⟨v2, v3, ks, rfl, kk, hks, hd3⟩
      rw [prf_len, List.take_length] at hks hd3
      have l16 := sv16 _ (fun p hp => hp) ks hks
      have hkk := gN_keys (tot ((ps.map ptM).map svcEv)) ks
      refine ⟨_, rfl, d, kvG gN (tot ((ps.map ptM).map svcEv)) ks, ks.map fun (s : Nat) => (s : Int), rfl, .inl hd3, hkk, ?_, fun ys p2 hp2 hs2 hn2 => ?_⟩
      · rw [List.length_map]
        exact Nat.lt_of_le_of_lt l16 (by decide)
      obtain ⟨tsS, hpS, hmS⟩ := perm_lift (fun s : Nat => (s : Int)) hp2.symm
      have hoS : tsS.Pairwise (· < ·) := by
        have h1 : (tsS.map fun (r : Nat) => (r : Int)).Pairwise (· ≤ ·) := by
          rw [hmS]
          exact hs2
        have h2 : tsS.Nodup := hpS.nodup_iff.mpr hks.nd
        unfold List.Nodup at h2
        rw [List.pairwise_map] at h1
        exact (h1.and h2).imp fun {x y} q => by
          have := q.1
          have := q.2
          omega
      subst hmS
      have sp := sameUpd (o := .lst ((tsS.map fun (r : Nat) => (r : Int)).map V.int)) hn2
      refine ⟨p2, rfl, ⟨_, SqL.of upd_same⟩, fun D hD => ?_⟩
      refine lc_listTups (K := K) (es := tsS.map fun s => (s, tot ((ps.map ptM).map svcEv) s)) (fun x => V.int (x.1 : Int)) (fun x => (tmRow x).map V.int) ?_ hD ?_ ?_ ?_
      · rw [List.map_map]
        have : SqL K (upd H3 p2 (.lst ((tsS.map fun (r : Nat) => (r : Int)).map V.int))) p2 ((tsS.map fun (r : Nat) => (r : Int)).map V.int) := SqL.of upd_same
        rw [List.map_map] at this
        rw [List.map_map]
        exact this
      · rw [List.length_map, hpS.length_eq]
        exact Nat.lt_of_le_of_lt l16 (by decide)
      · intro x hx H' s5 A' B' h1
        obtain ⟨s, hs, rfl⟩ := List.mem_map.mp hx
        have hd5 := s5 _ _ (sp _ _ hd3)
        have dg : DGet H' d (.int (s : Int)) (some (.int (tot ((ps.map ptM).map svcEv) s : Nat))) := by
          have g := DGet.k (k := gN s) hd5
          rw [kvG_val gN_inj, if_pos (hpS.mem_iff.mp hs)] at g
          exact g
        exact ⟨rfl, yes_if ⟨_, rfl, _, rfl, _, rfl, d, _, rfl, dg, by show 2 ≤ sizeLine; decide, fun q hq => h1 q hq⟩⟩
      · intro H6 qs s6 hqs htq hD6
        refine k H6 D qs ?_ ?_ ?_ htq hD6
        · have hHd : ∀ b o, H b = some o → b ≠ d := fun b o e z => by
            rw [z, hd] at e
            cases e
          exact fun b o e => s6 _ _ (sp _ _ (kk b (hHd b o e) o (s2 _ _ (sd _ _ e))))
        · rw [hqs, pof, ← hps]
          exact (hung_keys pu.srt (fun y hy => (pu.val y hy).2.2) (fun p hp => (wm' p hp).1) (fun p hp => (wm' p hp).2) hks hpS hoS).symm
        · have : qs.length = tsS.length := by
            have := congrArg List.length hqs
            rw [List.length_map, List.length_map] at this
            exact this
          rw [this, hpS.length_eq]
          exact l16
/-! ### hung_reply -/
def spHungReply (C : Cl) (T : List (Addr × Str)) : Sp := fun vs H Q _ => ∃ r : TR, vs = [.ref r.a] ∧ Tells C T oHung r H Q
theorem scHungReply : FnScope ["trace"] ["trace"] (defScope sHungReply) := ⟨rfl, rfl, rfl, by decide +kernel, rfl, by decide +kernel, by decide +kernel⟩
theorem ok_hungReply {f f1 f2 fc : Addr} {fd fd1 fd2 fdc : FuncData} (F : Fun K "hung_reply" "hung_reply" sHungReply f fd) (TH : TxtH K mg C.H)
    (G1 : FnOk P w K mg base CX0 4 f1 fd1 ["trace"] (spIsWhole C.S C.T)) (g1 : mg "is_whole" = some (.ref f1)) (k1 : PySem.W.keepIn K (.ref f1) = true) (b1 : Binds K fd1 ["trace"] [])
    (G2 : FnOk P w K mg base CX0 4 f2 fd2 ["trace"] (spTimes C.S C.T)) (g2 : mg "time_by_service" = some (.ref f2)) (k2 : PySem.W.keepIn K (.ref f2) = true) (b2 : Binds K fd2 ["trace"] [])
    (Gc : FnOk P w K mg base CX0 1 fc fdc ["rows"] spCounted) (gc : mg "counted" = some (.ref fc)) (kc : PySem.W.keepIn K (.ref fc) = true) (bc : Binds K fdc ["rows"] []) :
    FnOk P w K mg base CX0 5 f fd ["trace"] (spHungReply C T) := by
  obtain ⟨t2, e2⟩ := TH.notwhole
  refine F.ok scHungReply (fun vs H Q E h => ?_) (fun cdv A outer s H vs Q E hr h => ?_)
  · obtain ⟨r, rfl, _⟩ := h
    rfl
  · have hr1 : Room 1 (A.deeper (envOfC "hung_reply" (defScope sHungReply) s.heap.objs.size f cdv)) := hr.mono (by decide)
    refine ⟨_, pss_cons (ps_if (pt_not (pt_val (pe_call G1 hr rfl g1 k1 b1 .nil pass0 (pa_cons (pv 0) pa_nil)))) (pss_one (ps_ret (pe_lst (pa_cons (pe_glob (v := .int (-6)) rfl e2 ⟨_, rfl⟩) pa_nil)))) pss_nil)
      (pss_one (ps_ret (pe_call Gc hr1 rfl gc kc bc .nil pass0 (pa_cons (pe_call G2 hr rfl g2 k2 b2 .nil pass0 (pa_cons (pv 0) pa_nil)) pa_nil)))), ?_⟩
    obtain ⟨r, rfl, l, okr, pu, tabs, k⟩ := h
    refine ⟨_, rfl, r, l, rfl, okr, pu, fun H1 s1 => ⟨_, rfl, ?_⟩⟩
    have ok1 := okr.same s1
    cases hw : Sq40.whole l with
    | none =>
      have eo : oHung l = Sq40.says (-6) := by
        unfold oHung
        rw [hw]
      exact iteT ⟨by show 1 ≤ sizeLine; decide, fun q hq => Tells.one tabs k eo s1 hq⟩
    | some x0 =>
      have hroot := whole_root hw
      have eo : ans (oHung l) = ((Sq40.hung l (Sq40.pathOf l x0)).length : Int) :: Sq40.ints ((Sq40.hung l (Sq40.pathOf l x0)).flatMap fun y => [y.1, y.2]) := by
        unfold oHung
        rw [hw]
        rfl
      refine iteF ⟨_, rfl, r, l, x0, rfl, ok1, pu, hroot, fun H2 p ps s2 hps lps htp hp => ?_⟩
      refine ⟨p, Nat × Nat, tmRow, ps, rfl, hp, htp, ?_, fun H7 q s7 hq7 hq => ?_⟩
      · refine Nat.le_trans (Nat.le_of_eq (congrArg (· + 1) (flat_len (f := tmRow) (n := 2) (fun _ => rfl) ps))) ?_
        exact Nat.le_trans (show 2 * ps.length + 1 ≤ 33 by omega) (by decide)
      have sA := (s1.trans s2).trans s7
      refine k H7 q (LamX.ExtN.of sA) (tabs.ext sA) (NL.of ((s1.trans s2).free hq7)) ?_
      rw [hq, eo]
      refine congrArg (fun y : List Int => some (HO.lst (y.map V.int))) ?_
      rw [← hps, List.length_map, List.flatMap_map]
      congr 1
      unfold Sq40.ints
      rw [List.map_flatMap]
      rfl
end
end Tr
/-! # sorted(d), d a dict whose keys are pairs of whole numbers -/
namespace Tr
open PySem PySem.Spec PyProof.Rows L2
def pK (p : Int × Int) : List L2.Key := [Sum.inl p.1, Sum.inl p.2]
def kvP (ps : List ((Int × Int) × V)) : List (List L2.Key × V) := ps.map fun e => (pK e.1, e.2)
theorem keys_pairs {H : Hp} : ∀ {ps : List ((Int × Int) × V)} {bs : List Addr}, IsKeys H (kvP ps) bs → bs.map (pairAt H) = ps.map (·.1) ∧ ∀ b ∈ bs, H b = some (.tup [.int (pairAt H b).1, .int (pairAt H b).2])
  | [], bs, h => by
    cases h
    exact ⟨rfl, fun b hb => absurd hb (by simp)⟩
  | e :: ps, bs, h => by
    cases h with
    | cons h1 h2 =>
      obtain ⟨i1, i2⟩ := keys_pairs h2
      have h3 := pairAt_of (show H _ = some (.tup [.int e.1.1, .int e.1.2]) from h1)
      refine ⟨?_, fun b hb => ?_⟩
      · rw [List.map_cons, List.map_cons, i1, h3]
      · rcases List.mem_cons.mp hb with rfl | hb
        · rw [h3]
          exact h1
        · exact i2 b hb
def rSortDP : List V → Hp → VK → Prop := fun xs H Q => ∃ (a : Addr) (ps : List ((Int × Int) × V)), xs = [.ref a] ∧ Rd H a (.dT (kvP ps)) ∧
  ∀ (bs : List ((Int × Int) × Addr)) (p : Addr), (bs.map (·.1)).Perm (ps.map (·.1)) → bs.Pairwise (fun x y => SrtO.lexB y.1 x.1 = false) → (∀ b ∈ bs, H b.2 = some (.tup [.int b.1.1, .int b.1.2])) → H p = none → Q (.ref p) (upd H p (.lst (bs.map fun b => V.ref b.2)))
/-- the entries' keys, read in turn, are the places of the key tuples -/
theorem keys_read {P : Program} {w : World} {es : Array DictEntry} {en : List (List L2.Key × Addr × Value)} {acc : Array Value} (he : es.toList = en.map (entryOfKey (tupleKind (mixKind P w)))) (hn : acc.size = es.size) (hi : ∀ (j : Nat) (v : Value), acc[j]? = some v → ∃ x : DictEntry, es[j]? = some x ∧ v = x.key) :
    acc.toList = (en.map fun x => x.2.1).map Value.ref := by
  have ln : acc.size = en.length := hn.trans (size_of_entries he)
  refine List.ext_getElem (by rw [Array.length_toList, List.length_map, List.length_map, ln]) fun j h1 h2 => ?_
  rw [Array.length_toList] at h1
  obtain ⟨x, hx, e⟩ := hi j acc[j] (Array.getElem?_eq_getElem h1)
  have at_ := entry_at he j
  rw [hx, List.getElem?_eq_getElem (by omega)] at at_
  have e2 := Option.some.inj (show some x = some (entryOfKey (tupleKind (mixKind P w)) en[j]) from at_)
  rw [Array.getElem_toList, e, e2, List.getElem_map, List.getElem_map]
  rfl
section
variable {X : Cx}
theorem call_sortedDP (hc : X.calm = true) : CallR X (.builtin "sorted") rSortDP := by
  rintro pins s σ H xs us Q I r ⟨d, ps, rfl, hd, q⟩
  obtain rfl := Vals.ref1 r
  obtain ⟨z, lo, en, pr, o, es, ep, ho, hx, hdt, he, _⟩ := (show ObjOk X.prog X.w H s.heap d (.dT (kvP ps)) from hd.ok I.hok)
  obtain ⟨kp1, kp2⟩ := keys_pairs (isKeys_of pr)
  have few : en.length ≤ sizeLine := by
    rw [← Paired.length pr]
    exact z
  have lb : (en.map fun x => x.2.1).length = en.length := List.length_map _
  -- the collected keys are laid as a list and sorted in their place
  have rest : ∀ (h1 : Heap) (tk : Nat) (bs : List Addr), Inv X pins σ H { s with heap := h1, toks := tk } → bs = (en.map fun x => x.2.1) → wpAny (model X.prog X.w) X.A.in1.in1 (Builtin.«list.sort» ⟨[.ref h1.objs.size], []⟩)
      (fun r s2 => r = .done (.ret .none) ∧ EP X pins σ Q (.ref h1.objs.size) s2) (fun _ _ => False) { s with heap := h1.push (seqObj "list" (bs.map Value.ref).toArray 0), toks := tk } := by
    intro h1 tk bs J eb
    subst eb
    have here : (h1.push (seqObj "list" ((en.map fun x => x.2.1).map Value.ref).toArray 0)).get? h1.objs.size = some (seqObj "list" ((en.map fun x => x.2.1).map Value.ref).toArray 0) := Heap.get?_push_size _ rfl
    refine SrtO.list_sort_ord (s := { s with heap := h1.push (seqObj "list" ((en.map fun x => x.2.1).map Value.ref).toArray 0), toks := tk }) (SrtO.swo_lex fun u => pairAt H (adr u)) here (by rw [List.length_map, lb]; exact few) (fun two => SrtO.pairs_sortableO (k := fun u => pairAt H (adr u)) (Nat.lt_of_lt_of_le Nat.zero_lt_two two) (fun u hu => ?_) fun o2 e c => ?_) fun out g1 g2 => ⟨rfl, ?_⟩
    · obtain ⟨t, ht, rfl⟩ := List.mem_map.mp hu
      obtain ⟨a1, a2, a3, a4, a5, a6, a7, a8, a9⟩ := pair_is J (kp2 t ht)
      exact ⟨a1, a2, a3, a4, a5, a6, Heap.get?_push_of_some _ a7, a8, a9⟩
    · cases e.symm.trans here
      exact nomatch (show Value.type "list" = Value.type "tuple" from c)
    · obtain ⟨zs, z1, rfl⟩ := kq_lift Value.ref g2.perm.symm
      obtain ⟨c2, at2⟩ := PyProof.Rows.sortedHeap_at (vs := (en.map fun x => x.2.1).map Value.ref) (out := (zs.map Value.ref).toArray) here
      have zl : (zs.map V.ref).length ≤ sizeLine := by
        rw [List.length_map, z1.length_eq, lb]
        exact few
      have free : H h1.objs.size = none := J.hok.fresh (Nat.le_refl _)
      refine ⟨.ref h1.objs.size, upd H h1.objs.size (.lst (zs.map V.ref)), J.laid (t' := tk) (fun b u e => ?_) (Nat.le_refl _) ⟨zl, zs.map Value.ref, c2, refs_vals zs, at2⟩, rfl, ?_⟩
      · have bl : b < h1.objs.size := Heap.lt_size e
        rw [PyProof.Rows.sortedHeap_old (Nat.ne_of_lt bl) (by rw [size_push']; exact Nat.lt_succ_of_lt bl)]
        exact Heap.get?_push_of_some _ e
      · have fin := q (zs.map fun t => (pairAt H t, t)) h1.objs.size (by
          rw [List.map_map, ← kp1]
          exact z1.map _) (by
          have o1 : (zs.map Value.ref).Pairwise _ := g1
          rw [List.pairwise_map] at o1 ⊢
          exact o1) (fun b hb => by
          obtain ⟨t, ht, rfl⟩ := List.mem_map.mp hb
          exact kp2 t (z1.mem_iff.mp ht)) free
        rw [List.map_map] at fin
        exact fin
  refine Calls.call_function_entry kind_sorted plain_sorted entry_sorted (args_sorted1 _) (show wpAny _ _ (Builtin.«sorted» ⟨[.ref d], []⟩) _ _ _ from ?_)
  unfold Builtin.«sorted»
  refine wpAny_bind (m := checkCount "sorted" 1 1 _) (wpAny_pure (wpAny_bind (PySem.W.kdu_collect (A := X.A.in1) (kdl_raw lo hx hdt) (I.ok.hd hc) ho (by rw [size_of_entries he]; exact few) fun h1 tk acc hk hacc => ?_)))
  have ea := keys_read he hacc.1 hacc.2
  have J := I.kept (t' := tk) hk
  rw [ea]
  refine wpAny_bind (wpAny_newList (wpAny_bind (wpAny_holding (wpAny_call_entry slot_list_sort ⟨_, Heap.get?_push_size _ rfl, rfl⟩ entry_list_sort (wpAny_mono (rest h1 tk _ J rfl) (fun r s2 ⟨er, e2⟩ => ?_) fun _ _ z => z.elim) (args_list_sort _)))) (by rw [List.length_map, lb]; exact few))
  subst er
  exact ⟨_, rfl, wpAny_pure ⟨_, rfl, e2⟩⟩
end
end Tr
namespace Tr
open PySem PySem.Spec PyProof.Rows L2
abbrev sPairs : Stmt := top 24
abbrev sThose : Stmt := inClass (top 48) 9
abbrev sKept : Stmt := inClass (top 48) 10
abbrev sCallsTold : Stmt := inClass (top 48) 11
def gP (p : Nat × Nat) : List Key := pK ((p.1 : Int), (p.2 : Int))
theorem gP_inj (a b : Nat × Nat) (h : gP a = gP b) : a = b := by
  unfold gP pK at h
  have h1 := Sum.inl.inj (List.cons.inj h).1
  have h2 := Sum.inl.inj (List.cons.inj (List.cons.inj h).2).1
  dsimp only at h1 h2
  exact Prod.ext (by omega) (by omega)
theorem few_pairs {ks : List (Nat × Nat)} (h1 : ks.Nodup) (h2 : ∀ s ∈ ks, s.1 < 16 ∧ s.2 < 16) : ks.length ≤ 256 := by
  have := List.Nodup.length_le_of_subset h1 (show ks ⊆ (List.range 16).flatMap fun a => (List.range 16).map fun b => (a, b) from fun s hs => List.mem_flatMap.mpr ⟨s.1, List.mem_range.mpr (h2 s hs).1, List.mem_map.mpr ⟨s.2, List.mem_range.mpr (h2 s hs).2, rfl⟩⟩)
  exact Nat.le_trans this (by decide)
theorem evs_few {ls : List (List Sq40.Span)} (hv : ∀ l ∈ ls, ∀ y ∈ l, y.service < 16) {evs : List ((Nat × Nat) × Bool)} (h : ∀ e ∈ evs, ∃ l ∈ ls, ∃ y ∈ l, evP l y = some e) {ks : List (Nat × Nat)} (hk : Seen (evs.map one) ks) : ks.length ≤ 256 := by
  refine few_pairs hk.nd fun s hs => ?_
  obtain ⟨e, he, rfl⟩ := (hk.mem s).mp hs
  obtain ⟨z, hz, rfl⟩ := List.mem_map.mp he
  obtain ⟨l, hl, y, hy, q⟩ := h z hz
  unfold evP at q
  cases w : around l y with
  | none =>
    rw [w] at q
    cases q
  | some x =>
    rw [w] at q
    have e3 : ((x.service, y.service), y.failed) = z := Option.some.inj q
    subst e3
    exact ⟨hv l hl x (around_of w).1, hv l hl y hy⟩
theorem kvS_neg (es : List (Sq40.Span × Addr)) : valV (kvS es) (Sum.inl (-1)) = none := by
  induction es with
  | nil => rfl
  | cons e es ih =>
    unfold kvS at *
    rw [List.map_cons, valV_neg (fun z => by
      have := Sum.inl.inj z
      omega)]
    exact ih
section
variable {P : Program} {w : World} {K : PySem.W.Frag} {mg : Str → Option Value} {base : Heap} {C : Cl} {T : List (Addr × Str)}
/-- a call that changes nothing -/
theorem Does.look {c : Sq40.Call} {a : Addr} {H : Hp} {Q : VK} {m : HM} {h : Sq40.House} {dx dT : Addr} {o : Sq40.Out} (ha : HouseAt C H a m dx dT) (R : Rel m h)
    (k : ∀ (H' : Hp) (q : Addr) (m' : HM) (dx' dT' : Addr), HouseAt C H' a m' dx' dT' → Rel m' (h.step c).1 → LamX.Tabs T H' → KeepL H H' → NL H q → H' q = some (.lst ((ans (h.step c).2).map V.int)) → Q (.ref q) H')
    (e : h.step c = (h, o)) {H1 : Hp} (s : LamX.ExtN H H1) (tb : LamX.Tabs T H1) {q : Addr} (hn : NL H q) (hq : H1 q = some (.lst ((ans o).map V.int))) : Q (.ref q) H1 := by
  refine k _ q m dx dT (ha.ext s) (by rw [e]; exact R) tb (KeepL.ofE s) hn ?_
  rw [hq, e]
/-! ### around -/
def spAround (CS CT : Addr) : Sp := fun vs H Q _ => ∃ (r : TR) (l : List Sq40.Span) (e : Sq40.Span × Addr), vs = [.ref r.a, .ref e.2] ∧ TRok CS CT H r ∧ Pure r.es l ∧ e ∈ r.es ∧
  ∀ o : Option (Sq40.Span × Addr), o.map (·.1) = around l e.1 → (∀ y, o = some y → y ∈ r.es) → Q (oV o) H
theorem scAround : FnScope ["self", "span"] ["self", "span"] (defScope sAround) := ⟨rfl, rfl, rfl, by decide +kernel, rfl, by decide +kernel, by decide +kernel⟩
theorem ok_around {f : Addr} {fd : FuncData} (F : Fun K "around" "Trace.around" sAround f fd) (TS : TxtS K mg C.S) (TT : TxtT K mg C.T) :
    FnOk P w K mg base CX0 1 f fd ["self", "span"] (spAround C.S C.T) := by
  refine F.ok scAround (fun vs H Q E h => ?_) (fun cdv A outer s H vs Q E hr h => ?_)
  · obtain ⟨r, l, e, rfl, _⟩ := h
    rfl
  · have hu := hu_of hr
    refine ⟨_, pss_one (ps_ret (pe_dget1 hu (pe_fld (pv 0) rfl) (pe_op op_sub (pe_fld (pv 1) rfl) pe_int) ⟨rfl, rfl, rfl, rfl⟩)), ?_⟩
    obtain ⟨r, l, e, rfl, ok, pu, em, k⟩ := h
    obtain ⟨dx, hsp⟩ := ok.spans e em
    refine ⟨_, rfl, r.a, C.T, r.dx, _, _, rfl, ok.ins, TT.cl, TT.nSpans, tF_spans r, r.ds, rfl, .inl ⟨_, .inl ok.dict⟩, _, rfl, e.2, C.S, dx, _, _, rfl, hsp, TS.cl, TS.nWithin, sF_within _, _, _, rfl, rfl, _, DGet.k (k := Sum.inl (wI e.1.up - 1)) ok.dict, ?_⟩
    cases hup : e.1.up with
    | none =>
      show Q ((valV (kvS r.es) (Sum.inl (-1))).getD .non) H
      rw [kvS_neg]
      refine k none ?_ (fun y z => nomatch z)
      unfold around
      rw [hup]
      rfl
    | some i =>
      have ei : wI (some i) - 1 = (i : Int) := by
        show (i : Int) + 1 - 1 = i
        omega
      rw [ei]
      by_cases ey : ∃ e0 ∈ r.es, e0.1.id = i
      · obtain ⟨e0, em0, rfl⟩ := ey
        rw [pu.valV em0]
        refine k (some e0) ?_ (fun y z => by cases z; exact em0)
        have y0 : e0.1 ∈ l := pu.perm.mem_iff.mp (List.mem_map.mpr ⟨e0, em0, rfl⟩)
        exact (around_some pu.srt y0 hup).symm
      · have hne : ∀ e ∈ r.es, e.1.id ≠ i := fun e he z => ey ⟨e, he, z⟩
        rw [kvS_no hne]
        refine k none ?_ (fun y z => nomatch z)
        have hno : ∀ y ∈ l, y.id ≠ i := fun y hy => by
          obtain ⟨e0, h0, rfl⟩ := List.mem_map.mp (pu.perm.mem_iff.mpr hy)
          exact hne e0 h0
        unfold around
        rw [hup]
        exact (find_none hno).symm
/-! ### service_pairs -/
/-- the two dicts behind some tellings -/
def Pd (dA dF : Addr) (H : Hp) (evs : List ((Nat × Nat) × Bool)) : Prop := ∃ ks : List (Nat × Nat), Seen (evs.map one) ks ∧ Seen (evs.map bad) ks ∧ H dA = some (.dT (kvG gP (tot (evs.map one)) ks)) ∧ H dF = some (.dT (kvG gP (tot (evs.map bad)) ks))
theorem Pd.same {dA dF : Addr} {H H' : Hp} {evs : List ((Nat × Nat) × Bool)} (s : Same H H') (h : Pd dA dF H evs) : Pd dA dF H' evs := by
  obtain ⟨ks, h1, h2, h3, h4⟩ := h
  exact ⟨ks, h1, h2, s _ _ h3, s _ _ h4⟩
def tN (z : Int × Int) : Nat × Nat := (z.1.toNat, z.2.toNat)
theorem kvG_kvP (f : Nat × Nat → Nat) (ks : List (Nat × Nat)) : kvG gP f ks = kvP (ks.map fun p => (((p.1 : Int), (p.2 : Int)), V.int (f p))) := by
  unfold kvG kvP
  rw [List.map_map]
  rfl
theorem evsAll_snoc (ls : List (List Sq40.Span)) (l : List Sq40.Span) : evsAll (ls ++ [l]) = evsAll ls ++ evsP l := by
  unfold evsAll
  rw [List.flatMap_append, List.flatMap_cons, List.flatMap_nil, List.append_nil]
abbrev Quad := Nat × Nat × Nat × Nat
def qRow (x : Quad) : List Int := [(x.1 : Int), (x.2.1 : Int), (x.2.2.1 : Int), (x.2.2.2 : Int)]
def spPairs (CS CT : Addr) : Sp := fun vs H Q _ => ∃ (p : Addr) (tr : List (TR × List Sq40.Span)), vs = [.ref p] ∧ H p = some (.lst (tr.map fun x => V.ref x.1.a)) ∧ (∀ x ∈ tr, TRok CS CT H x.1 ∧ Pure x.1.es x.2) ∧
  ∀ (H' : Hp) (q : Addr) (ps : List (Quad × Addr)) (ks ts : List (Nat × Nat)), Same H H' → Seen ((evsAll (tr.map (·.2))).map one) ks → ts.Perm ks → ts.Pairwise PLt → ps.map (·.1) = (ts.map fun p => (p.1, p.2, tot ((evsAll (tr.map (·.2))).map one) p, tot ((evsAll (tr.map (·.2))).map bad) p)) → ps.length ≤ 256 →
    tups (fun x => (qRow x).map V.int) H' ps → H' q = some (.lst (prf ps)) → Q (.ref q) H'
theorem scPairs : FnScope ["traces", "asked", "failed", "trace", "span", "outer", "pair"] ["traces"] (defScope sPairs) := ⟨rfl, rfl, rfl, by decide +kernel, rfl, by decide +kernel, by decide +kernel⟩
theorem ok_pairs {f f1 f2 : Addr} {fd fd1 fd2 : FuncData} (F : Fun K "service_pairs" "service_pairs" sPairs f fd) (TS : TxtS K mg C.S) (TT : TxtT K mg C.T) (N : TxtN mg)
    (G1 : FnOk P w K mg base CX0 1 f1 fd1 ["self"] (spInOrder C.S C.T)) (m1 : Meth K C.T "in_order" f1) (b1 : Binds K fd1 ["self"] [])
    (G2 : FnOk P w K mg base CX0 1 f2 fd2 ["self", "span"] (spAround C.S C.T)) (m2 : Meth K C.T "around" f2) (b2 : Binds K fd2 ["self", "span"] []) :
    FnOk P w K mg base CX0 2 f fd ["traces"] (spPairs C.S C.T) := by
  refine F.ok scPairs (fun vs H Q E h => ?_) (fun cdv A outer s H vs Q E hr h => ?_)
  · obtain ⟨p, tr, rfl, _⟩ := h
    rfl
  · have hu := hu_of hr
    refine ⟨_, pss_cons (ps_set (i := 1) scPairs.nd rfl (Or.inr rfl) pe_dnewT)
      (pss_cons (ps_set (i := 2) scPairs.nd rfl (Or.inr rfl) pe_dnewT)
      (pss_cons (ps_for PassesOwn.never rfl (pi_list (pv 0)) (pg_name (i := 3) scPairs.nd rfl (Or.inl rfl))
        (pss_one (ps_for PassesOwn.never rfl (pi_list (pe_meth0 (pv 3) TT.cl m1 G1 hr b1 .nil pass0)) (pg_name (i := 4) scPairs.nd rfl (Or.inl rfl))
          (pss_cons (ps_set (i := 5) scPairs.nd rfl (Or.inl rfl) (pe_meth (pv 3) TT.cl m2 G2 hr b2 .nil pass0 (pa_cons (pv 4) pa_nil)))
          (pss_cons (ps_if (pt_cmp (pc_isN (pv 5))) (pss_one ps_continue) pss_nil)
          (pss_cons (ps_set (i := 6) scPairs.nd rfl (Or.inl rfl) (pe_tup (pa_cons (pe_fld (pv 5) rfl) (pa_cons (pe_fld (pv 4) rfl) pa_nil))))
          (pss_cons (ps_dput hu (pv 1) (pv 6) (pe_op op_add (pe_dget2 hu (pv 1) (pv 6) pe_int ⟨rfl, rfl, rfl, rfl⟩) pe_int) rfl)
          (pss_one (ps_dput hu (pv 2) (pv 6) (pe_op op_add (pe_dget2 hu (pv 2) (pv 6) pe_int ⟨rfl, rfl, rfl, rfl⟩) (pe_ifExp (pt_val (pe_fld (pv 4) rfl)) pe_int pe_int)) rfl)))))))))
      (pss_one (ps_ret (pe_lc (own := [("pair", 6)]) (g := gName 6) (tt := tYes) (te := tTup (tCons (tOp (rIxT K) (tVar 6) (tC (.int 0))) (tCons (tOp (rIxT K) (tVar 6) (tC (.int 1))) (tCons (tDGet (tVar 1) (tVar 6)) (tCons (tDGet (tVar 2) (tVar 6)) tNil))))) rfl scPairs.nd (pi_list (pe_callB (call_sortedDP rfl) (by rfl) N.sorted (by decide +kernel) (pa_cons (pv 1) pa_nil)))
        (blkOk_by (N := ["traces", "asked", "failed", "trace", "span", "outer", "pair"]) (sc := defScope sPairs) (by decide +kernel)) (fun _ _ _ _ _ => pg_name (i := 6) scPairs.nd rfl (Or.inl rfl))
        (fun _ _ _ _ _ => pts_nil) (fun _ _ _ _ _ => pe_tup (pa_cons (pe_ix ix_tup (pv 6) pe_int (fun _ _ => rfl)) (pa_cons (pe_ix ix_tup (pv 6) pe_int (fun _ _ => rfl)) (pa_cons (pe_dget (by exact hu) (pv 1) (pv 6) (fun _ _ => rfl)) (pa_cons (pe_dget (by exact hu) (pv 2) (pv 6) (fun _ _ => rfl)) pa_nil)))))))))), ?_⟩
    obtain ⟨p, tr, rfl, hp, htr, k⟩ := h
    intro dA hA
    have sA := sameUpd (o := .dT []) hA
    have hA1 : upd H dA (.dT []) dA = some (.dT []) := upd_same
    intro dF hF
    have hFA : dF ≠ dA := fun z => by
      rw [z, hA1] at hF
      cases hF
    have sF' := sameUpd (o := .dT []) hF
    have hA2 := sF' _ _ hA1
    have hF2 : upd (upd H dA (.dT [])) dF (.dT []) dF = some (.dT []) := upd_same
    have hFn : H dF = none := sA.free hF
    have s2 := sA.trans sF'
    generalize upd (upd H dA (.dT [])) dF (.dT []) = H2 at hA2 hF2 s2
    clear sF' sA hA1 hF
    have sv : ∀ l ∈ tr.map (·.2), ∀ y ∈ l, y.service < 16 := fun l hl y hy => by
      obtain ⟨x, hx, rfl⟩ := List.mem_map.mp hl
      exact ((htr x hx).2.val y hy).2.2
    refine ⟨_, rfl, p, rfl, ⟨_, SqL.of (s2 _ _ hp)⟩, for_list (K := K) (a := p) (xs := tr.map fun x => V.ref x.1.a) (fun i σ H' => ∃ v3 v4 v5 v6 : Option V, σ = [some (.ref p), some (.ref dA), some (.ref dF), v3, v4, v5, v6] ∧ Same H H' ∧ Pd dA dF H' (evsAll ((tr.take i).map (·.2))))
      ⟨none, none, none, none, rfl, s2, [], Seen.nil, Seen.nil, hA2, hF2⟩ (fun i σ H' _ ⟨_, _, _, _, _, s1, _⟩ => SqL.of (s1 _ _ hp)) ?_ ?_⟩
    · rintro i x σ H' hi ⟨v3, v4, v5, v6, rfl, sH, pd⟩
      obtain ⟨tl, htl, rfl⟩ := at_map hi
      have tm := List.mem_of_getElem? htl
      obtain ⟨ok0, pu⟩ := htr tl tm
      have hlm : tl.2 ∈ tr.map (·.2) := List.mem_map.mpr ⟨tl, tm, rfl⟩
      have ok := ok0.same sH
      refine ⟨_, rfl, tl.1.a, tl.1.dx, _, rfl, ok.ins, tF_none tl.1 (by decide +kernel), tl.1, tl.2, rfl, ok, pu, fun H3 p2 es s3 hm hin hn hp2 => ?_⟩
      have les : es.length = tl.2.length := by rw [← hm, List.length_map]
      refine ⟨p2, rfl, ⟨_, SqL.of hp2⟩, for_list (K := K) (a := p2) (xs := rfs es) (fun j σ H' => ∃ v4 v5 v6 : Option V, σ = [some (.ref p), some (.ref dA), some (.ref dF), some (.ref tl.1.a), v4, v5, v6] ∧ Same H H' ∧ H' p2 = some (.lst (rfs es)) ∧ Pd dA dF H' (evsAll ((tr.take i).map (·.2)) ++ (tl.2.take j).filterMap (evP tl.2)))
        ⟨v4, v5, v6, rfl, sH.trans s3, hp2, ?_⟩ (fun j σ H' _ ⟨_, _, _, _, _, y, _⟩ => SqL.of y) ?_ ?_⟩
      · rw [List.take_zero, List.filterMap_nil, List.append_nil]
        exact pd.same s3
      · rintro j x σ H4 hj ⟨v4, v5, v6, rfl, sH4, hp4, pd4⟩
        obtain ⟨e, he, rfl⟩ := at_map hj
        have em := hin e (List.mem_of_getElem? he)
        have hel : tl.2[j]? = some e.1 := by
          rw [← hm, List.getElem?_map, he]
          rfl
        have ok4 := ok0.same sH4
        refine ⟨_, rfl, tl.1.a, tl.1.dx, _, rfl, ok4.ins, tF_none tl.1 (by decide +kernel), _, rfl, tl.1, tl.2, e, rfl, ok4, pu, em, fun o ho hom => ?_⟩
        refine ⟨_, rfl, _, rfl, ?_⟩
        cases o with
        | none =>
          have hev : evP tl.2 e.1 = none := by
            unfold evP
            rw [← ho]
            rfl
          refine iteT ⟨some (.ref e.2), some .non, v6, rfl, sH4, hp4, ?_⟩
          rw [take_more hel, List.filterMap_append, List.filterMap_cons_none hev, List.filterMap_nil, List.append_nil]
          exact pd4
        | some x =>
          have xm := hom x rfl
          have hev : evP tl.2 e.1 = some ((x.1.service, e.1.service), e.1.failed) := by
            unfold evP
            rw [← ho]
            rfl
          obtain ⟨dx1, hsx⟩ := ok4.spans x xm
          obtain ⟨dx2, hse⟩ := ok4.spans e em
          refine iteF ⟨_, rfl, x.2, C.S, dx1, _, _, rfl, hsx, TS.cl, TS.nService, sF_service _, _, rfl, e.2, C.S, dx2, _, _, rfl, hse, TS.cl, TS.nService, sF_service _, by show 2 ≤ sizeLine; decide, fun t ht => ?_⟩
          have st := sameUpd (o := .tup [.int (x.1.service : Int), .int (e.1.service : Int)]) ht
          have ht5 : upd H4 t (.tup [.int (x.1.service : Int), .int (e.1.service : Int)]) t = some (.tup ((gP (x.1.service, e.1.service)).map kV)) := upd_same
          have sH5 := sH4.trans st
          have hp5 := st _ _ hp4
          have hse5 := st _ _ hse
          obtain ⟨ks, k1, k2, kA, kF⟩ := pd4.same st
          generalize upd H4 t (.tup [.int (x.1.service : Int), .int (e.1.service : Int)]) = H5 at ht5 sH5 hp5 hse5 kA kF
          have hin5 : ∀ z ∈ evsAll ((tr.take i).map (·.2)) ++ (tl.2.take j).filterMap (evP tl.2), ∃ l ∈ tr.map (·.2), ∃ y ∈ l, evP l y = some z := fun z hz => by
            rcases List.mem_append.mp hz with hz | hz
            · unfold evsAll at hz
              obtain ⟨l, hl, hz2⟩ := List.mem_flatMap.mp hz
              unfold evsP at hz2
              obtain ⟨y, hy, hz3⟩ := List.mem_filterMap.mp hz2
              obtain ⟨u, hu1, rfl⟩ := List.mem_map.mp hl
              exact ⟨u.2, List.mem_map.mpr ⟨u, List.mem_of_mem_take hu1, rfl⟩, y, hy, hz3⟩
            · obtain ⟨y, hy, hz3⟩ := List.mem_filterMap.mp hz
              exact ⟨tl.2, hlm, y, List.mem_of_mem_take hy, hz3⟩
          have l256 := evs_few sv hin5 k1
          have ee : evsAll ((tr.take i).map (·.2)) ++ (tl.2.take (j + 1)).filterMap (evP tl.2) = (evsAll ((tr.take i).map (·.2)) ++ (tl.2.take j).filterMap (evP tl.2)) ++ [((x.1.service, e.1.service), e.1.failed)] := by
            rw [take_more hel, List.filterMap_append, List.filterMap_cons_some hev, List.filterMap_nil, List.append_assoc]
          generalize evsAll ((tr.take i).map (·.2)) ++ (tl.2.take j).filterMap (evP tl.2) = evs at k1 k2 kA kF ee
          have lkA : (kvG gP (tot (evs.map one)) ks).length < sizeLine := by
            rw [kvG_len]
            exact Nat.lt_of_le_of_lt l256 (by decide)
          have lkF : (kvG gP (tot (evs.map bad)) ks).length < sizeLine := by
            rw [kvG_len]
            exact Nat.lt_of_le_of_lt l256 (by decide)
          have gtA := kvG_get gP_inj k1 (x.1.service, e.1.service)
          have gtF := kvG_get gP_inj k2 (x.1.service, e.1.service)
          refine ⟨_, rfl, dA, rfl, .inr ⟨_, .inl kA⟩, _, rfl, _, DGet.t (k := gP (x.1.service, e.1.service)) kA ht5, ?_⟩
          rw [gtA]
          refine ⟨_, _, rfl, rfl, _, rfl, _, rfl, dA, _, rfl, DPut.t (k := gP (x.1.service, e.1.service)) kA ht5 lkA, ?_⟩
          have evA : putK (kvG gP (tot (evs.map one)) ks) (gP (x.1.service, e.1.service)) (.int ((tot (evs.map one) (x.1.service, e.1.service) : Int) + 1)) = kvG gP (tot ((evs ++ [((x.1.service, e.1.service), e.1.failed)]).map one)) (more ks (x.1.service, e.1.service)) := by
            have := kvG_step gP_inj (evs.map one) ks (one ((x.1.service, e.1.service), e.1.failed))
            rw [List.map_append]
            exact this
          have uA : upd H5 dA (.dT (putK (kvG gP (tot (evs.map one)) ks) (gP (x.1.service, e.1.service)) (.int ((tot (evs.map one) (x.1.service, e.1.service) : Int) + 1)))) dA = some (.dT (kvG gP (tot ((evs ++ [((x.1.service, e.1.service), e.1.failed)]).map one)) (more ks (x.1.service, e.1.service)))) := by
            rw [upd_same, evA]
          have kp6 : ∀ b o, H5 b = some o → b ≠ dA → upd H5 dA (.dT (putK (kvG gP (tot (evs.map one)) ks) (gP (x.1.service, e.1.service)) (.int ((tot (evs.map one) (x.1.service, e.1.service) : Int) + 1)))) b = some o := fun b o hb hn => (upd_ne hn).trans hb
          have sH6 := samePut (p := dA) (o := .dT (putK (kvG gP (tot (evs.map one)) ks) (gP (x.1.service, e.1.service)) (.int ((tot (evs.map one) (x.1.service, e.1.service) : Int) + 1)))) sH5 hA
          show _
          have tA : t ≠ dA := ne_of ht5 kA (by intro z; cases z)
          have pA : p2 ≠ dA := ne_of hp5 kA (by intro z; cases z)
          have eA : e.2 ≠ dA := ne_of hse5 kA (by intro z; cases z)
          have ht6 := kp6 _ _ ht5 tA
          have hp6 := kp6 _ _ hp5 pA
          have hse6 := kp6 _ _ hse5 eA
          have kF6 := kp6 _ _ kF hFA
          generalize upd H5 dA (.dT (putK (kvG gP (tot (evs.map one)) ks) (gP (x.1.service, e.1.service)) (.int ((tot (evs.map one) (x.1.service, e.1.service) : Int) + 1)))) = H6 at uA sH6 ht6 hp6 hse6 kF6
          refine ⟨_, rfl, dF, rfl, .inr ⟨_, .inl kF6⟩, _, rfl, _, DGet.t (k := gP (x.1.service, e.1.service)) kF6 ht6, ?_⟩
          rw [gtF]
          refine ⟨_, rfl, e.2, C.S, dx2, _, _, rfl, hse6, TS.cl, TS.nFailed, sF_failed _, _, rfl, ifC ?_⟩
          have ez : (if e.1.failed = true then V.int 1 else V.int 0) = V.int ((bad ((x.1.service, e.1.service), e.1.failed)).2 : Nat) := by
            show _ = V.int ((if e.1.failed = true then 1 else 0 : Nat) : Int)
            split <;> rfl
          rw [ez]
          refine ⟨_, _, rfl, rfl, _, rfl, _, rfl, dF, _, rfl, DPut.t (k := gP (x.1.service, e.1.service)) kF6 ht6 lkF, some (.ref e.2), some (.ref x.2), some (.ref t), rfl, samePut sH6 hFn, ?_, ?_⟩
          · exact (upd_ne (ne_of hp6 kF6 (by intro z; cases z))).trans hp6
          · rw [ee]
            refine ⟨more ks (x.1.service, e.1.service), ?_, ?_, ?_, ?_⟩
            · rw [List.map_append]
              exact k1.step _
            · rw [List.map_append]
              exact k2.step _
            · exact (upd_ne (Ne.symm hFA)).trans uA
            · rw [upd_same]
              have := kvG_step gP_inj (evs.map bad) ks (bad ((x.1.service, e.1.service), e.1.failed))
              rw [List.map_append]
              exact congrArg (fun z => some (HO.dT z)) this
      · rintro σ H4 ⟨v4, v5, v6, rfl, sH4, hp4, pd4⟩
        refine ⟨some (.ref tl.1.a), v4, v5, v6, rfl, sH4, ?_⟩
        have lr : (rfs es).length = tl.2.length := by
          unfold rfs
          rw [List.length_map, les]
        rw [lr, List.take_length] at pd4
        rw [take_more htl, List.map_append]
        show Pd dA dF H4 (evsAll ((tr.take i).map (·.2) ++ [tl.2]))
        rw [evsAll_snoc]
        exact pd4
    · rintro σ H7 ⟨v3, v4, v5, v6, rfl, sH, pd⟩
      rw [List.length_map, List.take_length] at pd
      obtain ⟨ks, k1, k2, kA, kF⟩ := pd
      have hin7 : ∀ z ∈ evsAll (tr.map (·.2)), ∃ l ∈ tr.map (·.2), ∃ y ∈ l, evP l y = some z := fun z hz => by
        unfold evsAll at hz
        obtain ⟨l, hl, hz2⟩ := List.mem_flatMap.mp hz
        unfold evsP at hz2
        obtain ⟨y, hy, hz3⟩ := List.mem_filterMap.mp hz2
        exact ⟨l, hl, y, hy, hz3⟩
      have l256 := evs_few sv hin7 k1
      generalize evsAll (tr.map (·.2)) = evs at k1 k2 kA kF k
      have kA' := kA
      rw [kvG_kvP] at kA'
      refine ⟨_, rfl, dA, _, rfl, .inl kA', fun bs pq hperm hsort hbt hpn => ?_⟩
      have epn : (ks.map fun p => (((p.1 : Int), (p.2 : Int)), V.int (tot (evs.map one) p))).map (·.1) = ks.map fun p => ((p.1 : Int), (p.2 : Int)) := by
        rw [List.map_map]
        rfl
      rw [epn] at hperm
      have hb : ∀ b ∈ bs, b.1 = (((tN b.1).1 : Int), ((tN b.1).2 : Int)) ∧ tN b.1 ∈ ks := fun b hbm => by
        have := hperm.mem_iff.mp (List.mem_map.mpr ⟨b, hbm, rfl⟩)
        obtain ⟨z, hz, e⟩ := List.mem_map.mp this
        have e2 : tN b.1 = z := by
          rw [← e]
          unfold tN
          simp
        rw [e2]
        exact ⟨e.symm, hz⟩
      have hts : (bs.map fun b => tN b.1).Perm ks := by
        have h1 := hperm.map tN
        rw [List.map_map, List.map_map] at h1
        have h2 : ks.map (tN ∘ fun p : Nat × Nat => ((p.1 : Int), (p.2 : Int))) = ks := by
          calc _ = ks.map id := List.map_congr_left fun z _ => by
                show tN ((z.1 : Int), (z.2 : Int)) = z
                unfold tN
                simp
            _ = ks := List.map_id _
        rw [h2] at h1
        exact h1
      have hnd : (bs.map fun b => tN b.1).Nodup := hts.nodup_iff.mpr k1.nd
      have hso : (bs.map fun b => tN b.1).Pairwise PLt := by
        unfold List.Nodup at hnd
        rw [List.pairwise_map] at hnd ⊢
        refine (hsort.and hnd).imp_of_mem fun {x y} hx hy q => ?_
        have q1 := SrtO.lexB_no.mp q.1
        have q2 := q.2
        have x1 := (hb x hx).1
        have y1 := (hb y hy).1
        have x2 : x.1.1 = ((tN x.1).1 : Int) := congrArg Prod.fst x1
        have x3 : x.1.2 = ((tN x.1).2 : Int) := congrArg Prod.snd x1
        have y2 : y.1.1 = ((tN y.1).1 : Int) := congrArg Prod.fst y1
        have y3 : y.1.2 = ((tN y.1).2 : Int) := congrArg Prod.snd y1
        have q3 : ¬ ((tN x.1).1 = (tN y.1).1 ∧ (tN x.1).2 = (tN y.1).2) := fun z => q2 (Prod.ext z.1 z.2)
        unfold PLt
        omega
      have lbs : bs.length ≤ 256 := by
        have := hts.length_eq
        rw [List.length_map] at this
        omega
      have sp := sameUpd (o := .lst (bs.map fun b => V.ref b.2)) hpn
      refine ⟨pq, rfl, ⟨_, SqL.of upd_same⟩, fun D hD => ?_⟩
      refine lc_listTups (K := K) (es := bs) (fun b => V.ref b.2) (fun b => [.int b.1.1, .int b.1.2, .int (tot (evs.map one) (tN b.1) : Nat), .int (tot (evs.map bad) (tN b.1) : Nat)]) (SqL.of upd_same) hD (Nat.lt_of_le_of_lt lbs (by decide)) ?_ ?_
      · intro b hbm H' s5 A' B' h1
        have htb := s5 _ _ (sp _ _ (hbt b hbm))
        have htk : H' b.2 = some (.tup ((gP (tN b.1)).map kV)) := by
          rw [htb]
          have z := (hb b hbm).1
          show some (HO.tup [.int b.1.1, .int b.1.2]) = some (HO.tup [.int ((tN b.1).1 : Int), .int ((tN b.1).2 : Int)])
          rw [show b.1.1 = ((tN b.1).1 : Int) from congrArg Prod.fst z, show b.1.2 = ((tN b.1).2 : Int) from congrArg Prod.snd z]
        have dgA : DGet H' dA (.ref b.2) (some (.int (tot (evs.map one) (tN b.1) : Nat))) := by
          have g := DGet.t (k := gP (tN b.1)) (s5 _ _ (sp _ _ kA)) htk
          rw [kvG_val gP_inj, if_pos (hb b hbm).2] at g
          exact g
        have dgF : DGet H' dF (.ref b.2) (some (.int (tot (evs.map bad) (tN b.1) : Nat))) := by
          have g := DGet.t (k := gP (tN b.1)) (s5 _ _ (sp _ _ kF)) htk
          rw [kvG_val gP_inj, if_pos (hb b hbm).2] at g
          exact g
        exact ⟨rfl, yes_if ⟨_, rfl, b.2, [.int b.1.1, .int b.1.2], 0, _, rfl, rfl, SqT.of htb, atI_nat (j := 0) rfl, _, rfl, b.2, [.int b.1.1, .int b.1.2], 1, _, rfl, rfl, SqT.of htb, atI_nat (j := 1) rfl, _, rfl, _, rfl, dA, _, rfl, dgA, _, rfl, _, rfl, dF, _, rfl, dgF, by show 4 ≤ sizeLine; decide, fun q hq => h1 q hq⟩⟩
      · intro H8 qs s8 hqs htq hD8
        refine k H8 D (qs.map fun z => (((tN z.1.1).1, (tN z.1.1).2, tot (evs.map one) (tN z.1.1), tot (evs.map bad) (tN z.1.1)), z.2)) ks (bs.map fun b => tN b.1) ((sH.trans sp).trans s8) k1 hts hso ?_ ?_ ?_ ?_
        · rw [List.map_map, ← hqs, List.map_map, List.map_map]
          rfl
        · rw [List.length_map]
          have := congrArg List.length hqs
          rw [List.length_map] at this
          omega
        · intro z hz
          obtain ⟨y, hy, rfl⟩ := List.mem_map.mp hz
          have hyb : y.1 ∈ bs := by
            rw [← hqs]
            exact List.mem_map.mpr ⟨y, hy, rfl⟩
          have h3 := htq y hy
          have z1 := (hb y.1 hyb).1
          show H8 y.2 = some (HO.tup [.int ((tN y.1.1).1 : Int), .int ((tN y.1.1).2 : Int), .int (tot (evs.map one) (tN y.1.1) : Nat), .int (tot (evs.map bad) (tN y.1.1) : Nat)])
          rw [h3, ← show y.1.1.1 = ((tN y.1.1).1 : Int) from congrArg Prod.fst z1, ← show y.1.1.2 = ((tN y.1.1).2 : Int) from congrArg Prod.snd z1]
        · rw [hD8]
          unfold prf
          rw [List.map_map]
          rfl
end
end Tr
namespace Tr
open PySem PySem.Spec PyProof.Rows L2
abbrev sLongest : Stmt := top 25
abbrev sSlowest : Stmt := inClass (top 48) 12
/-- the lambda's name -/
def lamName2 : Str := "longest_first.<locals>.<lambda>"
/-- a tuple a turn, the turn may leave new things behind -/
theorem lc_tupsG {ι : Type} {J : It} {G : Hp → Prop} {Y : Nat → Hp → V → Hp → Prop} {es : List ι} (v : ι → V) (tv : ι → List V) {g : TG} {tt : TT} {te : TE} {vs : List Nat} {σ : L2.St} {H1 : Hp} {D : Addr} {Qd : Hp → Prop}
    (w : Walk J es.length G Y) (hY : ∀ i H x H', i < es.length → Y i H x H' → H' = H ∧ ∃ e, es[i]? = some e ∧ x = v e) (hG : ∀ H', Same H1 H' → G H') (hD : H1 D = none) (hn : es.length < sizeLine)
    (turn : ∀ e ∈ es, ∀ H', Same H1 H' → ∀ (A : V → Hp → Prop) (B : Hp → Prop), (∀ H2 q, Same H' H2 → H2 q = none → A (.ref q) (upd H2 q (.tup (tv e)))) →
      g (v e) (wipe σ vs) H' fun σ2 H2 => wipe σ2 vs = wipe σ vs ∧ tt σ2 H2 fun b H3 => if b = true then te σ2 H3 A else B H3)
    (hd : ∀ H' (ps : List (ι × Addr)), Same H1 H' → ps.map (·.1) = es → tups tv H' ps → H' D = some (.lst (prf ps)) → Qd H') : LcW J g tt te vs σ H1 D Qd := by
  refine lc_it w (fun i H' => Same H1 H' ∧ ∃ ps : List (ι × Addr), ps.map (·.1) = es.take i ∧ tups tv H' ps ∧ H' D = some (.lst (prf ps))) ⟨sameUpd hD, [], rfl, fun p hp => (by cases hp), upd_same⟩ (fun i H' _ q => hG H' q.1) ?_ ?_
  · rintro i x H H' hi ⟨s1, ps, hm, ht, hd⟩ y
    obtain ⟨rfl, e, he, rfl⟩ := hY i H x H' hi y
    refine turn e (List.mem_of_getElem? he) H' s1 _ _ fun H2 q s2 hq => ?_
    have sq : Same H' (upd H2 q (.tup (tv e))) := s2.trans (sameUpd hq)
    have hDq := sq _ _ hd
    refine ⟨_, hDq, ?_, samePut (s1.trans sq) hD, ps ++ [(e, q)], ?_, ?_, ?_⟩
    · unfold prf
      rw [List.length_map, ← List.length_map (f := fun p : ι × Addr => p.1), hm]
      refine Nat.lt_of_le_of_lt ?_ hn
      rw [List.length_take]
      omega
    · rw [List.map_append, hm, take_more he]
      rfl
    · refine tups.lst ?_ hDq
      intro p hp
      rcases List.mem_append.mp hp with hp | hp
      · exact sq _ _ (ht p hp)
      · rw [List.mem_singleton.mp hp]
        exact upd_same
    · rw [upd_same]
      unfold prf
      rw [List.map_append]
      rfl
  · rintro H' ⟨s1, ps, hm, ht, hd'⟩
    rw [List.take_length] at hm
    exact hd H' ps s1 hm ht hd'
section
variable {P : Program} {w : World} {K : PySem.W.Frag} {mg : Str → Option Value} {base : Heap} {C : Cl} {T : List (Addr × Str)}
/-! ### those_kept -/
def keptOf (ts : List TR) : List TR := ts.filter fun r => r.verdict == 1
def spThose (C : Cl) : Sp := fun vs H Q _ => ∃ (a dx dT : Addr) (m : HM), vs = [.ref a] ∧ HouseAt C H a m dx dT ∧ (m.ts.map (·.n)).Nodup ∧ m.ts.length ≤ 60 ∧
  ∀ (H' : Hp) (p : Addr) (ts : List TR), Same H H' → ts.Perm m.ts → (ts.Pairwise fun x y => x.n < y.n) → H p = none → H' p = some (.lst (trf (keptOf ts))) → Q (.ref p) H'
theorem scThose : FnScope ["self", "trace"] ["self"] (defScope sThose) := ⟨rfl, rfl, rfl, by decide +kernel, rfl, by decide +kernel, by decide +kernel⟩
theorem ok_those {f fb : Addr} {fd fdb : FuncData} (F : Fun K "those_kept" "House.those_kept" sThose f fd) (TT : TxtT K mg C.T) (TH : TxtH K mg C.H)
    (Gb : FnOk P w K mg base CX0 1 fb fdb ["self"] (spByNumber C)) (mb : Meth K C.H "by_number" fb) (bb : Binds K fdb ["self"] []) :
    FnOk P w K mg base CX0 2 f fd ["self"] (spThose C) := by
  obtain ⟨t3, e3⟩ := TH.kept
  refine F.ok scThose (fun vs H Q E h => ?_) (fun cdv A outer s H vs Q E hr h => ?_)
  · obtain ⟨a, dx, dT, m, rfl, _⟩ := h
    rfl
  · refine ⟨_, pss_one (ps_ret (pe_lc (own := [("trace", 1)]) (g := gName 1) (tt := tTest (tOp rEq (tFld K (tVar 1) "verdict") (tC (.int 1)))) (te := tVar 1) rfl scThose.nd (pi_list (pe_meth0 (pv 0) TH.cl mb Gb hr bb .nil pass0))
      (blkOk_by (N := ["self", "trace"]) (sc := defScope sThose) (by decide +kernel)) (fun _ _ _ _ _ => pg_name (i := 1) scThose.nd rfl (Or.inl rfl))
      (fun _ _ _ _ _ => pts_one (pt_cmpR op_eq (pe_fld (pv 1) rfl) (pe_glob (v := .int 1) rfl e3 ⟨_, rfl⟩) (nomark _))) (fun _ _ _ _ _ => pv 1))), ?_⟩
    obtain ⟨a, dx, dT, m, rfl, ha, nd, few, k⟩ := h
    refine ⟨_, rfl, a, dx, _, rfl, ha.ins, hF_none _ dT (by decide +kernel), a, dx, dT, m, rfl, ha, nd, few, fun H1 p ts s1 hpS hoS hpn hp => ?_⟩
    refine ⟨p, rfl, ⟨_, SqL.of hp⟩, fun D hD => ?_⟩
    refine lc_listPick (K := K) (es := ts) (fun r => V.ref r.a) (fun r => V.ref r.a) (fun r => r.verdict == 1) (SqL.of hp) hD ?_ ?_ ?_
    · rw [hpS.length_eq]
      exact Nat.lt_of_le_of_lt few (by decide)
    · intro r hr H' s2 A' B' h1 h2
      have i5 := (((ha.same s1).same s2).trs r (hpS.mem_iff.mp hr)).ins
      refine ⟨rfl, ⟨_, rfl, r.a, C.T, r.dx, _, _, rfl, i5, TT.cl, TT.nVerdict, tF_verdict _, rfl, _, rfl, ?_⟩⟩
      have ev : decide (V.int (r.verdict : Int) = V.int 1) = (r.verdict == 1) := by
        by_cases c : r.verdict = 1
        · rw [c]
          rfl
        · rw [decide_eq_false (fun z => c (by have := V.int.inj z; omega))]
          symm
          simpa using c
      show (if decide (V.int (r.verdict : Int) = V.int 1) = true then _ else _)
      rw [ev]
      cases c : r.verdict == 1 with
      | true => exact iteT ⟨_, rfl, h1 c⟩
      | false => exact iteF (h2 c)
    · intro H2 s2 hD2
      exact k H2 D ts (s1.trans s2) hpS hoS (s1.free hD) hD2
/-! ### kept -/
def nRow (r : TR) : List Int := [(r.n : Int)]
def spKept (C : Cl) (T : List (Addr × Str)) : Sp := fun vs H Q _ => ∃ a : Addr, vs = [.ref a] ∧ Does C T .kept a H Q
theorem scKept : FnScope ["self", "trace"] ["self"] (defScope sKept) := ⟨rfl, rfl, rfl, by decide +kernel, rfl, by decide +kernel, by decide +kernel⟩
theorem ok_kept {f fb fc : Addr} {fd fdb fdc : FuncData} (F : Fun K "kept" "House.kept" sKept f fd) (TT : TxtT K mg C.T) (TH : TxtH K mg C.H)
    (Gb : FnOk P w K mg base CX0 2 fb fdb ["self"] (spThose C)) (mb : Meth K C.H "those_kept" fb) (bb : Binds K fdb ["self"] [])
    (Gc : FnOk P w K mg base CX0 1 fc fdc ["rows"] spCounted) (gc : mg "counted" = some (.ref fc)) (kc : PySem.W.keepIn K (.ref fc) = true) (bc : Binds K fdc ["rows"] []) :
    FnOk P w K mg base CX0 3 f fd ["self"] (spKept C T) := by
  refine F.ok scKept (fun vs H Q E h => ?_) (fun cdv A outer s H vs Q E hr h => ?_)
  · obtain ⟨a, rfl, _⟩ := h
    rfl
  · have hr1 : Room 1 (A.deeper (envOfC "House.kept" (defScope sKept) s.heap.objs.size f cdv)) := hr.mono (by decide)
    refine ⟨_, pss_one (ps_ret (pe_call Gc hr1 rfl gc kc bc .nil pass0 (pa_cons
      (pe_lc (own := [("trace", 1)]) (g := gName 1) (tt := tYes) (te := tTup (tCons (tFld K (tVar 1) "number") tNil)) rfl scKept.nd (pi_list (pe_meth0 (pv 0) TH.cl mb Gb hr bb .nil pass0))
      (blkOk_by (N := ["self", "trace"]) (sc := defScope sKept) (by decide +kernel)) (fun _ _ _ _ _ => pg_name (i := 1) scKept.nd rfl (Or.inl rfl))
      (fun _ _ _ _ _ => pts_nil) (fun _ _ _ _ _ => pe_tup (pa_cons (pe_fld (pv 1) rfl) pa_nil))) pa_nil))), ?_⟩
    obtain ⟨a, rfl, m, h, dx, dT, ha, R, tabs, k⟩ := h
    refine ⟨_, rfl, a, dx, _, rfl, ha.ins, hF_none _ dT (by decide +kernel), a, dx, dT, m, rfl, ha, R.nd, R.few, fun H1 p ts s1 hpS hoS hpn hp => ?_⟩
    have kis := kept_is R hpS hoS
    have hin : ∀ r ∈ keptOf ts, r ∈ m.ts := fun r hr => hpS.mem_iff.mp (List.mem_filter.mp hr).1
    have lk : (keptOf ts).length ≤ 60 := Nat.le_trans (List.length_filter_le _ _) (by rw [hpS.length_eq]; exact R.few)
    replace kis : h.kept = (keptOf ts).map (·.n) := kis
    generalize keptOf ts = es at hp kis hin lk
    refine ⟨p, rfl, ⟨_, SqL.of hp⟩, fun D hD => ?_⟩
    refine lc_listTups (K := K) (es := es) (fun r => V.ref r.a) (fun r => (nRow r).map V.int) (SqL.of hp) hD (Nat.lt_of_le_of_lt lk (by decide)) ?_ ?_
    · intro r hr H' s5 A' B' h1
      have i5 := (((ha.same s1).same s5).trs r (hin r hr)).ins
      exact ⟨rfl, yes_if ⟨_, rfl, r.a, C.T, r.dx, _, _, rfl, i5, TT.cl, TT.nNumber, tF_number _, by show 1 ≤ sizeLine; decide, fun q hq => h1 q hq⟩⟩
    · intro H6 qs s6 hqs htq hD6
      have lqs : qs.length = es.length := by rw [← hqs, List.length_map]
      refine ⟨D, TR, nRow, qs, rfl, hD6, htq, ?_, fun H7 q s7 hq7 hq => ?_⟩
      · refine Nat.le_trans (Nat.le_of_eq (congrArg (· + 1) (flat_len (f := nRow) (n := 1) (fun _ => rfl) qs))) ?_
        exact Nat.le_trans (show 1 * qs.length + 1 ≤ 61 by omega) (by decide)
      have sA := (s1.trans s6).trans s7
      refine Does.look ha R k (step_kept h) (LamX.ExtN.of sA) (tabs.ext sA) (NL.of ((s1.trans s6).free hq7)) ?_
      rw [hq]
      refine congrArg (fun y : List Int => some (HO.lst (y.map V.int))) ?_
      show _ = ((h.kept.length : Nat) : Int) :: Sq40.ints h.kept
      rw [kis, ← hqs, List.map_map, List.length_map]
      congr 1
      unfold Sq40.ints
      rw [List.map_map]
      have : ∀ z : List (TR × Addr), (z.flatMap fun x => nRow x.1) = z.map fun x => (x.1.n : Int) := fun z => by
        induction z with
        | nil => rfl
        | cons y z ih =>
          rw [List.flatMap_cons, List.map_cons, ih]
          rfl
      exact this qs
/-! ### calls_told -/
def spCallsTold (C : Cl) (T : List (Addr × Str)) : Sp := fun vs H Q _ => ∃ a : Addr, vs = [.ref a] ∧ Does C T .calls a H Q
theorem scCallsTold : FnScope ["self"] ["self"] (defScope sCallsTold) := ⟨rfl, rfl, rfl, by decide +kernel, rfl, by decide +kernel, by decide +kernel⟩
theorem ok_callsTold {f fb fc fp : Addr} {fd fdb fdc fdp : FuncData} (F : Fun K "calls_told" "House.calls_told" sCallsTold f fd) (TH : TxtH K mg C.H)
    (Gb : FnOk P w K mg base CX0 2 fb fdb ["self"] (spThose C)) (mb : Meth K C.H "those_kept" fb) (bb : Binds K fdb ["self"] [])
    (Gp : FnOk P w K mg base CX0 2 fp fdp ["traces"] (spPairs C.S C.T)) (gp : mg "service_pairs" = some (.ref fp)) (kp : PySem.W.keepIn K (.ref fp) = true) (bp : Binds K fdp ["traces"] [])
    (Gc : FnOk P w K mg base CX0 1 fc fdc ["rows"] spCounted) (gc : mg "counted" = some (.ref fc)) (kc : PySem.W.keepIn K (.ref fc) = true) (bc : Binds K fdc ["rows"] []) :
    FnOk P w K mg base CX0 3 f fd ["self"] (spCallsTold C T) := by
  refine F.ok scCallsTold (fun vs H Q E h => ?_) (fun cdv A outer s H vs Q E hr h => ?_)
  · obtain ⟨a, rfl, _⟩ := h
    rfl
  · have hr1 : Room 1 (A.deeper (envOfC "House.calls_told" (defScope sCallsTold) s.heap.objs.size f cdv)) := hr.mono (by decide)
    refine ⟨_, pss_one (ps_ret (pe_call Gc hr1 rfl gc kc bc .nil pass0 (pa_cons (pe_call Gp hr rfl gp kp bp .nil pass0 (pa_cons (pe_meth0 (pv 0) TH.cl mb Gb hr bb .nil pass0) pa_nil)) pa_nil))), ?_⟩
    obtain ⟨a, rfl, m, h, dx, dT, ha, R, tabs, k⟩ := h
    refine ⟨_, rfl, a, dx, _, rfl, ha.ins, hF_none _ dT (by decide +kernel), a, dx, dT, m, rfl, ha, R.nd, R.few, fun H1 p ts s1 hpS hoS hpn hp => ?_⟩
    have kis := kept_is R hpS hoS
    have hin : ∀ r ∈ keptOf ts, r ∈ m.ts := fun r hr => hpS.mem_iff.mp (List.mem_filter.mp hr).1
    replace kis : h.kept = (keptOf ts).map (·.n) := kis
    generalize keptOf ts = es at hp kis hin
    have ha1 := ha.same s1
    have els : ((es.map fun r => (r, h.of_ r.n)).map (·.2)) = h.kept.map fun t => h.of_ t := by
      rw [kis, List.map_map, List.map_map]
      rfl
    refine ⟨p, es.map fun r => (r, h.of_ r.n), rfl, ?_, fun x hx => ?_, fun H2 q2 ps ks tsk s2 hks hpk hok hps lps htp hq2 => ?_⟩
    · rw [hp, List.map_map]
      rfl
    · obtain ⟨r, hr, rfl⟩ := List.mem_map.mp hx
      exact ⟨ha1.trs r (hin r hr), R.pure (hin r hr)⟩
    have hss : ∀ l ∈ (es.map fun r => (r, h.of_ r.n)).map (·.2), ∃ r ∈ m.ts, l = h.of_ r.n := fun l hl => by
      rw [List.map_map] at hl
      obtain ⟨r, hr, rfl⟩ := List.mem_map.mp hl
      exact ⟨r, hin r hr, rfl⟩
    have cis := calls_keys (h := h) els (fun l hl => by
      obtain ⟨r, hr, rfl⟩ := hss l hl
      exact (R.pure hr).srt) (fun l hl y hy => by
      obtain ⟨r, hr, rfl⟩ := hss l hl
      exact ((R.pure hr).val y hy).2.2) hks hpk hok
    rw [← hps] at cis
    refine ⟨q2, Quad, qRow, ps, rfl, hq2, htp, ?_, fun H7 q s7 hq7 hq => ?_⟩
    · refine Nat.le_trans (Nat.le_of_eq (congrArg (· + 1) (flat_len (f := qRow) (n := 4) (fun _ => rfl) ps))) ?_
      exact Nat.le_trans (show 4 * ps.length + 1 ≤ 1025 by omega) (by decide)
    have sA := (s1.trans s2).trans s7
    refine Does.look ha R k (step_calls h) (LamX.ExtN.of sA) (tabs.ext sA) (NL.of ((s1.trans s2).free hq7)) ?_
    rw [hq]
    refine congrArg (fun y : List Int => some (HO.lst (y.map V.int))) ?_
    show _ = ((h.calls.length : Nat) : Int) :: Sq40.ints (h.calls.flatMap fun x => [x.1, x.2.1, x.2.2.1, x.2.2.2])
    rw [cis, List.length_map, List.flatMap_map]
    congr 1
    unfold Sq40.ints
    rw [List.map_flatMap]
    rfl
/-! ### longest_first -/
def keyTr (tr : List (TR × List Sq40.Span)) (a : Addr) : Int × Int := match tr.find? fun x => x.1.a == a with
  | some x => (-(Sq40.long x.2 : Int), (x.1.n : Int))
  | none => (0, 0)
theorem keyTr_of {tr : List (TR × List Sq40.Span)} (nd : (tr.map fun x => x.1.a).Nodup) {x : TR × List Sq40.Span} (hx : x ∈ tr) : keyTr tr x.1.a = (-(Sq40.long x.2 : Int), (x.1.n : Int)) := by
  unfold keyTr
  cases q : tr.find? (fun y => y.1.a == x.1.a) with
  | none =>
    have := List.find?_eq_none.mp q x hx
    simp at this
  | some y =>
    have h1 := List.mem_of_find?_eq_some q
    have h2 := List.find?_some q
    have e : y = x := map_inj nd h1 hx (by simpa using h2)
    rw [e]
def spLongest (C : Cl) (T : List (Addr × Str)) : Sp := fun vs H Q _ => ∃ (p : Addr) (tr : List (TR × List Sq40.Span)), vs = [.ref p] ∧ H p = some (.lst (tr.map fun x => V.ref x.1.a)) ∧ (∀ x ∈ tr, TRok C.S C.T H x.1 ∧ Pure x.1.es x.2 ∧ x.2 ≠ []) ∧ (tr.map fun x => x.1.a).Nodup ∧ LamX.Tabs T H ∧
  ∀ (H' : Hp) (q : Addr) (t2 : List (TR × List Sq40.Span)), LamX.ExtN H H' → LamX.Tabs T H' → t2.Perm tr → (t2.Pairwise fun x y => ¬ (-(Sq40.long y.2 : Int) < -(Sq40.long x.2 : Int) ∨ (-(Sq40.long y.2 : Int) = -(Sq40.long x.2 : Int) ∧ (y.1.n : Int) < (x.1.n : Int)))) → H' q = some (.lst (t2.map fun x => V.ref x.1.a)) → Q (.ref q) H'
theorem scLongest : FnScope ["traces"] ["traces"] (defScope sLongest) := ⟨rfl, rfl, rfl, by decide +kernel, rfl, by decide +kernel, by decide +kernel⟩
theorem ok_longest {f f1 c Pt : Addr} {fd1 : FuncData} {oc kV doc pm ct : Value} {od an : Option Addr} {osl : Array (Option Value)}
    (lk : K.lookup f = some ⟨oc, od, .func (PySem.W.fnOf "longest_first" "longest_first" (defArgs sLongest) (defBody sLongest) (defScope sLongest) .none kV doc pm an (.ref c) ct), osl⟩) (hcd : PySem.W.codeIn K (.ref c) "longest_first" = true)
    (TB : LamX.TabB base mg c Pt) (hmT : (Pt, lamName2) ∈ T) (hu : ∀ p ∈ T, p.1 = Pt → p.2 = lamName2) (TT : TxtT K mg C.T) (N : TxtN mg)
    (G1 : FnOk P w K mg base CX0 1 f1 fd1 ["self"] (spLength C.S C.T)) (m1 : Meth K C.T "length" f1) (b1 : Binds K fd1 ["self"] []) :
    FnOk P w K mg base CX0 5 f (PySem.W.fnOf "longest_first" "longest_first" (defArgs sLongest) (defBody sLongest) (defScope sLongest) .none kV doc pm an (.ref c) ct) ["traces"] (spLongest C T) := by
  refine fn_of lk hcd scLongest (fun vs H Q E h => ?_) (fun A outer s H vs Q E hr h => ?_)
  · obtain ⟨p, tr, rfl, _⟩ := h
    rfl
  · have eN : (cxOf CX0 P w K mg base ["traces"] "longest_first" (defScope sLongest) f (.ref c) A outer s H E).nox.env.qual ++ ("<lambda>" : Str) = lamName2 := by
      show ("longest_first" : Str) ++ ".<locals>." ++ ("<lambda>" : Str) = lamName2
      decide +kernel
    refine ⟨_, PSs.nox (pss_one (ps_ret (pe_sortBy pairKey (T := T) (c := c) (Pt := Pt) (k := 1) (x := "trace") (Nl := ["trace"]) (tb := tTup (tCons (tUn (rU fun i => .int (-i)) (tMeth C.T "length" (spLength C.S C.T) [] E0 (tVar 0) tNil)) (tCons (tFld K (tVar 0) "number") tNil))) (pa_cons (pv 0) pa_nil) rfl (by rfl) N.sorted TB rfl (by rw [eN]; exact hmT) (by rw [eN]; exact hu) rfl rfl
          ⟨rfl, rfl, rfl, by decide +kernel, rfl, by decide +kernel, by decide +kernel⟩ rfl (fun _ _ _ _ _ => rfl) hr (fun _ _ _ _ _ _ _ hrl => pe_tup (pa_cons (pe_un un_neg (pe_meth0 (pv 0) TT.cl m1 G1 hrl b1 .nil pass0)) (pa_cons (pe_fld (pv 0) rfl) pa_nil)))))), ?_⟩
    obtain ⟨p, tr, rfl, hp, htr, nda, tabs, k⟩ := h
    refine ⟨_, rfl, tabs, fun H2 ext tabs2 => ⟨p, tr.map fun x => x.1.a, keyTr tr, rfl, ?_, ?_, fun zs q H3 s3 hperm hpw hq => ?_⟩⟩
    · have := ext _ _ hp (fun _ z => nomatch z)
      rw [List.map_map]
      exact SqL.of this
    · intro y hy H3 s3
      obtain ⟨x, hx, rfl⟩ := List.mem_map.mp hy
      obtain ⟨ok, pu, hne⟩ := htr x hx
      have ok3 := (ok.ext ext).same s3
      refine ⟨_, rfl, x.1.a, x.1.dx, _, rfl, ok3.ins, tF_none x.1 (by decide +kernel), x.1, x.2, rfl, ok3, pu, hne, fun H4 s4 => ?_⟩
      have ok4 := ok3.same s4
      refine ⟨_, rfl, _, rfl, x.1.a, C.T, x.1.dx, _, _, rfl, ok4.ins, TT.cl, TT.nNumber, tF_number _, by show 2 ≤ sizeLine; decide, fun t ht => ⟨s4.trans (sameUpd ht), t, rfl, ?_⟩⟩
      rw [upd_same, keyTr_of nda hx]
    · obtain ⟨t2, hp2, hz2⟩ := perm_lift (fun x : TR × List Sq40.Span => x.1.a) hperm.symm
      subst hz2
      have sq := sameUpd (o := .lst ((t2.map fun x => x.1.a).map V.ref)) hq
      refine k _ q t2 (ext.trans (LamX.ExtN.of (s3.trans sq))) (tabs2.ext (s3.trans sq)) hp2 ?_ ?_
      · rw [List.pairwise_map] at hpw
        refine hpw.imp_of_mem fun {x y} hx hy h => ?_
        have := SrtO.lexB_no.mp h
        rw [keyTr_of nda (hp2.mem_iff.mp hx), keyTr_of nda (hp2.mem_iff.mp hy)] at this
        exact this
      · rw [upd_same, List.map_map]
        rfl
/-! ### slowest -/
def slRow (x : TR × List Sq40.Span) : List Int := [(x.1.n : Int), (Sq40.long x.2 : Int)]
def spSlowest (C : Cl) (T : List (Addr × Str)) : Sp := fun vs H Q _ => ∃ (a : Addr) (n : Nat), vs = [.ref a, .int n] ∧ Does C T (.slowest n) a H Q
theorem scSlowest : FnScope ["self", "how_many", "longest", "trace"] ["self", "how_many"] (defScope sSlowest) := ⟨rfl, rfl, rfl, by decide +kernel, rfl, by decide +kernel, by decide +kernel⟩
theorem cut_take (xs : List V) (n : Nat) : cutV xs none (some (n : Int)) = xs.take n := by
  unfold cutV
  rw [HT.sIx_none, HT.sIx_nat, List.drop_zero, Nat.sub_zero]
  by_cases c : n ≤ xs.length
  · rw [Nat.min_eq_left c]
  · rw [Nat.min_eq_right (by omega), List.take_length, List.take_of_length_le (by omega)]
theorem ok_slowest {f fb fc fl f1 : Addr} {fd fdb fdc fdl fd1 : FuncData} (F : Fun K "slowest" "House.slowest" sSlowest f fd) (TT : TxtT K mg C.T) (TH : TxtH K mg C.H)
    (Gb : FnOk P w K mg base CX0 2 fb fdb ["self"] (spThose C)) (mb : Meth K C.H "those_kept" fb) (bb : Binds K fdb ["self"] [])
    (Gl' : FnOk P w K mg base CX0 5 fl fdl ["traces"] (spLongest C T)) (gl : mg "longest_first" = some (.ref fl)) (kl : PySem.W.keepIn K (.ref fl) = true) (bl : Binds K fdl ["traces"] [])
    (G1 : FnOk P w K mg base CX0 1 f1 fd1 ["self"] (spLength C.S C.T)) (m1 : Meth K C.T "length" f1) (b1 : Binds K fd1 ["self"] [])
    (Gc : FnOk P w K mg base CX0 1 fc fdc ["rows"] spCounted) (gc : mg "counted" = some (.ref fc)) (kc : PySem.W.keepIn K (.ref fc) = true) (bc : Binds K fdc ["rows"] []) :
    FnOk P w K mg base CX0 6 f fd ["self", "how_many"] (spSlowest C T) := by
  refine F.ok scSlowest (fun vs H Q E h => ?_) (fun cdv A outer s H vs Q E hr h => ?_)
  · obtain ⟨a, n, rfl, _⟩ := h
    rfl
  · have hr1 : Room 1 (A.deeper (envOfC "House.slowest" (defScope sSlowest) s.heap.objs.size f cdv)) := hr.mono (by decide)
    have hr2 : Room 2 (A.deeper (envOfC "House.slowest" (defScope sSlowest) s.heap.objs.size f cdv)) := hr.mono (by decide)
    refine ⟨_, pss_cons (ps_set (i := 2) scSlowest.nd rfl (Or.inl rfl) (pe_slice sl_list (pe_call Gl' hr rfl gl kl bl .nil pass0 (pa_cons (pe_meth0 (pv 0) TH.cl mb Gb hr2 bb .nil pass0) pa_nil)) po_none (po_some (pv 1))))
      (pss_one (ps_ret (pe_call Gc hr1 rfl gc kc bc .nil pass0 (pa_cons
      (pe_lc (own := [("trace", 3)]) (g := gName 3) (tt := tYes) (te := tTup (tCons (tFld K (tVar 3) "number") (tCons (tMeth C.T "length" (spLength C.S C.T) [] E0 (tVar 3) tNil) tNil))) rfl scSlowest.nd (pi_list (pv 2))
      (blkOk_by (N := ["self", "how_many", "longest", "trace"]) (sc := defScope sSlowest) (by decide +kernel)) (fun _ _ _ _ _ => pg_name (i := 3) scSlowest.nd rfl (Or.inl rfl))
      (fun _ _ _ _ _ => pts_nil) (fun _ _ _ _ _ => pe_tup (pa_cons (pe_fld (pv 3) rfl) (pa_cons (pe_meth0 (pv 3) TT.cl m1 G1 (by exact hr1) b1 .nil pass0) pa_nil)))) pa_nil)))), ?_⟩
    obtain ⟨a, n, rfl, m, h, dx, dT, ha, R, tabs, k⟩ := h
    refine ⟨_, rfl, a, dx, _, rfl, ha.ins, hF_none _ dT (by decide +kernel), a, dx, dT, m, rfl, ha, R.nd, R.few, fun H1 p ts s1 hpS hoS hpn hp => ?_⟩
    have kis := kept_is R hpS hoS
    have hin : ∀ r ∈ keptOf ts, r ∈ m.ts := fun r hr => hpS.mem_iff.mp (List.mem_filter.mp hr).1
    have hko : (keptOf ts).Pairwise fun x y => x.n < y.n := List.Pairwise.filter _ hoS
    have hka : ((keptOf ts).map (·.a)).Nodup := by
      have h1 : (ts.map (·.a)).Nodup := (hpS.map _).nodup_iff.mpr ha.nda
      exact h1.sublist (List.Sublist.map _ List.filter_sublist)
    have lk : (keptOf ts).length ≤ 60 := Nat.le_trans (List.length_filter_le _ _) (by rw [hpS.length_eq]; exact R.few)
    replace kis : h.kept = (keptOf ts).map (·.n) := kis
    generalize keptOf ts = es at hp kis hin hko hka lk
    have ha1 := ha.same s1
    have tabs1 := tabs.ext s1
    refine ⟨p, es.map fun r => (r, h.of_ r.n), rfl, ?_, fun x hx => ?_, ?_, tabs1, fun H2 q2 t2 ext tabs2 hp2 hpw hq2 => ?_⟩
    · rw [hp, List.map_map]
      rfl
    · obtain ⟨r, hr, rfl⟩ := List.mem_map.mp hx
      exact ⟨ha1.trs r (hin r hr), R.pure (hin r hr), R.some (hin r hr)⟩
    · rw [List.map_map]
      exact hka
    have hin2 : ∀ x ∈ t2, x.1 ∈ m.ts ∧ x.2 = h.of_ x.1.n := fun x hx => by
      obtain ⟨r, hr, rfl⟩ := List.mem_map.mp (hp2.mem_iff.mp hx)
      exact ⟨hin r hr, rfl⟩
    have lt2 : t2.length ≤ 60 := by
      rw [hp2.length_eq, List.length_map]
      exact lk
    have ndn : (t2.map fun x => x.1.n).Nodup := by
      have h1 : (es.map (·.n)).Nodup := by
        unfold List.Nodup
        rw [List.pairwise_map]
        exact hko.imp fun q => Nat.ne_of_lt q
      have h2 := hp2.map fun x : TR × List Sq40.Span => x.1.n
      rw [List.map_map] at h2
      exact h2.nodup_iff.mpr h1
    have slo : (t2.map fun x => (x.1.n, Sq40.long x.2)).Pairwise Slow := by
      unfold List.Nodup at ndn
      rw [List.pairwise_map] at ndn ⊢
      refine (hpw.and ndn).imp fun {x y} q => ?_
      have q1 := q.1
      have q2 := q.2
      unfold Slow
      dsimp only
      omega
    have slp : (t2.map fun x => (x.1.n, Sq40.long x.2)).Perm (h.kept.map fun t => (t, Sq40.long (h.of_ t))) := by
      have h2 := hp2.map fun x : TR × List Sq40.Span => (x.1.n, Sq40.long x.2)
      rw [List.map_map] at h2
      rw [kis, List.map_map]
      exact h2
    have st := slowest_is (n := n) R slp slo
    refine ⟨_, rfl, _, rfl, q2, _, rfl, SqL.of hq2, fun g hg => ?_⟩
    have ecut : cutV (t2.map fun x => V.ref x.1.a) none (some (n : Int)) = (t2.take n).map fun x => V.ref x.1.a := by
      rw [cut_take, List.map_take]
    rw [ecut]
    have sg := sameUpd (o := .lst ((t2.take n).map fun x => V.ref x.1.a)) hg
    have hg3 : upd H2 g (.lst ((t2.take n).map fun x => V.ref x.1.a)) g = some (.lst ((t2.take n).map fun x => V.ref x.1.a)) := upd_same
    have ext3 : LamX.ExtN H (upd H2 g (.lst ((t2.take n).map fun x => V.ref x.1.a))) := ((LamX.ExtN.of s1).trans ext).trans (LamX.ExtN.of sg)
    have tabs3 := tabs2.ext sg
    generalize upd H2 g (.lst ((t2.take n).map fun x => V.ref x.1.a)) = H3 at hg3 ext3 tabs3
    have ha3 := ha.ext ext3
    have e2 : ((t2.map fun x => (x.1.n, Sq40.long x.2)).take n) = (t2.take n).map fun x => (x.1.n, Sq40.long x.2) := by
      rw [List.map_take]
    rw [e2] at st
    have hin3 : ∀ x ∈ t2.take n, x ∈ t2 := fun x hx => List.mem_of_mem_take hx
    have lt3 : (t2.take n).length ≤ 60 := by
      rw [List.length_take]
      omega
    generalize t2.take n = t3 at hg3 st hin3 lt3
    refine ⟨_, rfl, g, rfl, ⟨_, SqL.of hg3⟩, fun D hD => ?_⟩
    refine lc_tupsG (es := t3) (fun x => V.ref x.1.a) (fun x => (slRow x).map V.int) (walk_items_of (K := K) (a := g) t3 fun x => V.ref x.1.a) (fun i H x H' _ y => yat_of y) (fun H' s => s.seq (SqL.of hg3)) hD (Nat.lt_of_le_of_lt lt3 (by decide)) ?_ ?_
    · intro x hx H' s5 A' B' h1
      obtain ⟨hm, hl⟩ := hin2 x (hin3 x hx)
      have ok5 := (ha3.same s5).trs x.1 hm
      have pu := R.pure hm
      rw [← hl] at pu
      have hne := R.some hm
      rw [← hl] at hne
      exact ⟨rfl, yes_if ⟨_, rfl, x.1.a, C.T, x.1.dx, _, _, rfl, ok5.ins, TT.cl, TT.nNumber, tF_number _, _, rfl, x.1.a, x.1.dx, _, rfl, ok5.ins, tF_none x.1 (by decide +kernel), x.1, x.2, rfl, ok5, pu, hne, fun H6 s6 => ⟨by show 2 ≤ sizeLine; decide, fun q hq => h1 H6 q s6 hq⟩⟩⟩
    · intro H6 qs s6 hqs htq hD6
      have lqs : qs.length = t3.length := by rw [← hqs, List.length_map]
      refine ⟨D, TR × List Sq40.Span, slRow, qs, rfl, hD6, htq, ?_, fun H7 q s7 hq7 hq => ?_⟩
      · refine Nat.le_trans (Nat.le_of_eq (congrArg (· + 1) (flat_len (f := slRow) (n := 2) (fun _ => rfl) qs))) ?_
        exact Nat.le_trans (show 2 * qs.length + 1 ≤ 121 by omega) (by decide)
      have sA := s6.trans s7
      refine Does.look ha R k st (ext3.trans (LamX.ExtN.of sA)) (tabs3.ext sA) (NL.ext ext3 (s6.free hq7)) ?_
      rw [hq]
      refine congrArg (fun y : List Int => some (HO.lst (y.map V.int))) ?_
      show _ = (((t3.map fun x => (x.1.n, Sq40.long x.2)).length : Nat) : Int) :: Sq40.ints ((t3.map fun x => (x.1.n, Sq40.long x.2)).flatMap fun x => [x.1, x.2])
      rw [← hqs, List.map_map, List.length_map, List.flatMap_map]
      congr 1
      unfold Sq40.ints
      rw [List.map_flatMap]
      rfl
end
end Tr
namespace Tr
open PySem PySem.Spec PyProof.Rows L2
abbrev sAnswerTo : Stmt := top 50
abbrev sAnswerAbout : Stmt := top 51
theorem eqF {p q : Int} (h : p ≠ q) {A B : Prop} (hb : B) : if decide (V.int p = V.int q) = true then A else B := by
  rw [decide_eq_false (fun z => h (V.int.inj z))]
  exact iteF hb
theorem eqT {p : Int} {A B : Prop} (ha : A) : if decide (V.int p = V.int p) = true then A else B := by
  rw [decide_eq_true rfl]
  exact iteT ha
/-- the numbers of the calls -/
structure TxtA (mg : Str → Option Value) : Prop where
  begin_ : ∃ t, mg "BEGIN" = some (.int 1 t)
  span : ∃ t, mg "SPAN" = some (.int 2 t)
  tick : ∃ t, mg "TICK" = some (.int 3 t)
  tree : ∃ t, mg "TREE" = some (.int 4 t)
  alone : ∃ t, mg "ALONE" = some (.int 5 t)
  path : ∃ t, mg "PATH" = some (.int 6 t)
  hung : ∃ t, mg "HUNG" = some (.int 7 t)
  faults : ∃ t, mg "FAULTS" = some (.int 8 t)
  kept : ∃ t, mg "ALL_KEPT" = some (.int 10 t)
  calls : ∃ t, mg "CALLS_TOLD" = some (.int 11 t)
  slowest : ∃ t, mg "SLOWEST" = some (.int 12 t)
theorem call_cases {p : Int} {as : List Int} {c : Sq40.Call} (h : callFor p as = some c) (hp : ∀ x ∈ as, 0 ≤ x) :
    (∃ q s e : Nat, p = 1 ∧ as = [(q : Int), (s : Int), (e : Int)] ∧ c = .begin_ q s e) ∨
    (∃ t i u s b e f : Nat, p = 2 ∧ as = [(t : Int), (i : Int), (u : Int), (s : Int), (b : Int), (e : Int), (f : Int)] ∧ c = .span t i u s b e f) ∨
    (∃ n : Nat, p = 3 ∧ as = [(n : Int)] ∧ c = .tick n) ∨ (∃ n : Nat, p = 4 ∧ as = [(n : Int)] ∧ c = .tree n) ∨ (∃ n i : Nat, p = 5 ∧ as = [(n : Int), (i : Int)] ∧ c = .alone n i) ∨
    (∃ n : Nat, p = 6 ∧ as = [(n : Int)] ∧ c = .path n) ∨ (∃ n : Nat, p = 7 ∧ as = [(n : Int)] ∧ c = .hung n) ∨ (∃ n : Nat, p = 8 ∧ as = [(n : Int)] ∧ c = .faults n) ∨ (∃ n : Nat, p = 9 ∧ as = [(n : Int)] ∧ c = .fate n) ∨
    (p = 10 ∧ as = [] ∧ c = .kept) ∨ (p = 11 ∧ as = [] ∧ c = .calls) ∨ (∃ n : Nat, p = 12 ∧ as = [(n : Int)] ∧ c = .slowest n) := by
  obtain ⟨ns, rfl⟩ : ∃ ns : List Nat, as = ns.map fun (n : Nat) => (n : Int) := ⟨as.map Int.toNat, by
    rw [List.map_map]
    have : ∀ x ∈ as, ((fun (n : Nat) => (n : Int)) ∘ Int.toNat) x = id x := fun x hx => Int.toNat_of_nonneg (hp x hx)
    rw [List.map_congr_left this, List.map_id]⟩
  unfold callFor Sq40Neutral.callOf at h
  dsimp only at h
  split at h <;> rename_i e <;> first
    | (cases h; done)
    | skip
  all_goals
    have e1 := (List.cons.inj e).1
    have e2 := (List.cons.inj e1).1
    have e3 := (List.cons.inj e1).2
    subst e2
    rcases ns with _ | ⟨n1, _ | ⟨n2, _ | ⟨n3, _ | ⟨n4, _ | ⟨n5, _ | ⟨n6, _ | ⟨n7, _ | ⟨n8, ns⟩⟩⟩⟩⟩⟩⟩⟩ <;> first
      | (exfalso; have z := congrArg List.length e3; simp at z; done)
      | skip
  all_goals simp only [List.map_cons, List.map_nil, List.cons.injEq, and_true] at e3
  · obtain ⟨rfl, rfl, rfl⟩ := e3
    exact .inl ⟨_, _, _, rfl, rfl, (Option.some.inj h).symm⟩
  · obtain ⟨rfl, rfl, rfl, rfl, rfl, rfl, rfl⟩ := e3
    exact .inr (.inl ⟨_, _, _, _, _, _, _, rfl, rfl, (Option.some.inj h).symm⟩)
  · subst e3
    exact .inr (.inr (.inl ⟨_, rfl, rfl, (Option.some.inj h).symm⟩))
  · subst e3
    exact .inr (.inr (.inr (.inl ⟨_, rfl, rfl, (Option.some.inj h).symm⟩)))
  · obtain ⟨rfl, rfl⟩ := e3
    exact .inr (.inr (.inr (.inr (.inl ⟨_, _, rfl, rfl, (Option.some.inj h).symm⟩))))
  · subst e3
    exact .inr (.inr (.inr (.inr (.inr (.inl ⟨_, rfl, rfl, (Option.some.inj h).symm⟩)))))
  · subst e3
    exact .inr (.inr (.inr (.inr (.inr (.inr (.inl ⟨_, rfl, rfl, (Option.some.inj h).symm⟩))))))
  · subst e3
    exact .inr (.inr (.inr (.inr (.inr (.inr (.inr (.inl ⟨_, rfl, rfl, (Option.some.inj h).symm⟩)))))))
  · subst e3
    exact .inr (.inr (.inr (.inr (.inr (.inr (.inr (.inr (.inl ⟨_, rfl, rfl, (Option.some.inj h).symm⟩))))))))
  · exact .inr (.inr (.inr (.inr (.inr (.inr (.inr (.inr (.inr (.inl ⟨rfl, rfl, (Option.some.inj h).symm⟩)))))))))
  · exact .inr (.inr (.inr (.inr (.inr (.inr (.inr (.inr (.inr (.inr (.inl ⟨rfl, rfl, (Option.some.inj h).symm⟩))))))))))
  · subst e3
    exact .inr (.inr (.inr (.inr (.inr (.inr (.inr (.inr (.inr (.inr (.inr ⟨_, rfl, rfl, (Option.some.inj h).symm⟩))))))))))
section
variable {P : Program} {w : World} {K : PySem.W.Frag} {mg : Str → Option Value} {base : Heap} {C : Cl} {T : List (Addr × Str)}
theorem Does.same {c : Sq40.Call} {a : Addr} {H H1 : Hp} {Q : VK} (s : Same H H1) (d : Does C T c a H Q) : Does C T c a H1 Q := by
  obtain ⟨m, h, dx, dT, ha, R, tabs, k⟩ := d
  refine ⟨m, h, dx, dT, ha.same s, R, tabs.ext s, fun H' q m' dx' dT' h1 h2 h3 h4 h5 h6 => k H' q m' dx' dT' h1 h2 h3 ((KeepL.of s).trans h4) (fun xs z => h5 xs (s _ _ z)) h6⟩
theorem Does.tells {c : Sq40.Call} {a : Addr} {H : Hp} {Q : VK} {m : HM} {h : Sq40.House} {dx dT : Addr} {o : List Sq40.Span → Sq40.Out} {r : TR} (ha : HouseAt C H a m dx dT) (R : Rel m h) (tabs : LamX.Tabs T H)
    (k : ∀ (H' : Hp) (q : Addr) (m' : HM) (dx' dT' : Addr), HouseAt C H' a m' dx' dT' → Rel m' (h.step c).1 → LamX.Tabs T H' → KeepL H H' → NL H q → H' q = some (.lst ((ans (h.step c).2).map V.int)) → Q (.ref q) H')
    (hr : r ∈ m.ts) (e : h.step c = (h, o (h.of_ r.n))) : Tells C T o r H Q :=
  ⟨h.of_ r.n, ha.trs r hr, R.pure hr, tabs, fun H' q s tb nl hq => Does.look ha R k e s tb nl hq⟩
/-! ### answer_about -/
def spAnswerAbout (C : Cl) (T : List (Addr × Str)) : Sp := fun vs H Q _ => ∃ (r : TR) (g : Addr) (p : Int) (as : List Int), vs = [.ref r.a, .int p, .ref g] ∧ H g = some (.lst (as.map V.int)) ∧
  ((p = 4 ∧ Tells C T oTree r H Q) ∨ (p = 5 ∧ ∃ n i : Nat, as = [(n : Int), (i : Int)] ∧ Tells C T (oAlone i) r H Q) ∨ (p = 6 ∧ Tells C T oPath r H Q) ∨ (p = 7 ∧ Tells C T oHung r H Q) ∨ (p = 8 ∧ Tells C T oFaults r H Q) ∨ (p = 9 ∧ Tells C T (fun _ => Sq40.says (r.verdict : Int)) r H Q))
theorem scAnswerAbout : FnScope ["trace", "call", "given"] ["trace", "call", "given"] (defScope sAnswerAbout) := ⟨rfl, rfl, rfl, by decide +kernel, rfl, by decide +kernel, by decide +kernel⟩
theorem ok_answerAbout {f f1 f2 f3 f4 f5 : Addr} {fd fd1 fd2 fd3 fd4 fd5 : FuncData} (F : Fun K "answer_about" "answer_about" sAnswerAbout f fd) (TT : TxtT K mg C.T) (TA : TxtA mg)
    (G1 : FnOk P w K mg base CX0 5 f1 fd1 ["trace"] (spTreeReply C T)) (g1 : mg "tree_reply" = some (.ref f1)) (k1 : PySem.W.keepIn K (.ref f1) = true) (b1 : Binds K fd1 ["trace"] [])
    (G2 : FnOk P w K mg base CX0 5 f2 fd2 ["trace", "number"] (spAloneReply C T)) (g2 : mg "alone_reply" = some (.ref f2)) (k2 : PySem.W.keepIn K (.ref f2) = true) (b2 : Binds K fd2 ["trace", "number"] [])
    (G3 : FnOk P w K mg base CX0 5 f3 fd3 ["trace"] (spPathReply C T)) (g3 : mg "path_reply" = some (.ref f3)) (k3 : PySem.W.keepIn K (.ref f3) = true) (b3 : Binds K fd3 ["trace"] [])
    (G4 : FnOk P w K mg base CX0 5 f4 fd4 ["trace"] (spHungReply C T)) (g4 : mg "hung_reply" = some (.ref f4)) (k4 : PySem.W.keepIn K (.ref f4) = true) (b4 : Binds K fd4 ["trace"] [])
    (G5 : FnOk P w K mg base CX0 3 f5 fd5 ["trace"] (spFaultsReply C T)) (g5 : mg "faults_reply" = some (.ref f5)) (k5 : PySem.W.keepIn K (.ref f5) = true) (b5 : Binds K fd5 ["trace"] []) :
    FnOk P w K mg base CX0 6 f fd ["trace", "call", "given"] (spAnswerAbout C T) := by
  obtain ⟨t1, e1⟩ := TA.tree
  obtain ⟨t2, e2⟩ := TA.alone
  obtain ⟨t3, e3⟩ := TA.path
  obtain ⟨t4, e4⟩ := TA.hung
  obtain ⟨t5, e5⟩ := TA.faults
  refine F.ok scAnswerAbout (fun vs H Q E h => ?_) (fun cdv A outer s H vs Q E hr h => ?_)
  · obtain ⟨r, g, p, as, rfl, _⟩ := h
    rfl
  · have hr3 : Room 3 (A.deeper (envOfC "answer_about" (defScope sAnswerAbout) s.heap.objs.size f cdv)) := hr.mono (by decide)
    refine ⟨_, pss_cons (ps_if (pt_cmpR op_eq (pv 1) (pe_glob (v := .int 4) rfl e1 ⟨_, rfl⟩) (nomark _)) (pss_one (ps_ret (pe_call G1 hr rfl g1 k1 b1 .nil pass0 (pa_cons (pv 0) pa_nil)))) pss_nil)
      (pss_cons (ps_if (pt_cmpR op_eq (pv 1) (pe_glob (v := .int 5) rfl e2 ⟨_, rfl⟩) (nomark _)) (pss_one (ps_ret (pe_call G2 hr rfl g2 k2 b2 .nil pass0 (pa_cons (pv 0) (pa_cons (pe_ix ix_list (pv 2) pe_int (fun _ _ => rfl)) pa_nil))))) pss_nil)
      (pss_cons (ps_if (pt_cmpR op_eq (pv 1) (pe_glob (v := .int 6) rfl e3 ⟨_, rfl⟩) (nomark _)) (pss_one (ps_ret (pe_call G3 hr rfl g3 k3 b3 .nil pass0 (pa_cons (pv 0) pa_nil)))) pss_nil)
      (pss_cons (ps_if (pt_cmpR op_eq (pv 1) (pe_glob (v := .int 7) rfl e4 ⟨_, rfl⟩) (nomark _)) (pss_one (ps_ret (pe_call G4 hr rfl g4 k4 b4 .nil pass0 (pa_cons (pv 0) pa_nil)))) pss_nil)
      (pss_cons (ps_if (pt_cmpR op_eq (pv 1) (pe_glob (v := .int 8) rfl e5 ⟨_, rfl⟩) (nomark _)) (pss_one (ps_ret (pe_call G5 hr3 rfl g5 k5 b5 .nil pass0 (pa_cons (pv 0) pa_nil)))) pss_nil)
      (pss_one (ps_ret (pe_lst (pa_cons (pe_fld (pv 0) rfl) pa_nil)))))))), ?_⟩
    obtain ⟨r, g, p, as, rfl, hg, h⟩ := h
    rcases h with ⟨rfl, h⟩ | ⟨rfl, n, i, rfl, h⟩ | ⟨rfl, h⟩ | ⟨rfl, h⟩ | ⟨rfl, h⟩ | ⟨rfl, h⟩
    · exact ⟨_, rfl, rfl, _, rfl, eqT ⟨_, rfl, r, rfl, h⟩⟩
    · exact ⟨_, rfl, rfl, _, rfl, eqF (by decide) ⟨_, rfl, rfl, _, rfl, eqT ⟨_, rfl, _, rfl, g, _, 1, _, rfl, rfl, SqL.of hg, atI_nat (j := 1) rfl, r, i, rfl, h⟩⟩⟩
    · exact ⟨_, rfl, rfl, _, rfl, eqF (by decide) ⟨_, rfl, rfl, _, rfl, eqF (by decide) ⟨_, rfl, rfl, _, rfl, eqT ⟨_, rfl, r, rfl, h⟩⟩⟩⟩
    · exact ⟨_, rfl, rfl, _, rfl, eqF (by decide) ⟨_, rfl, rfl, _, rfl, eqF (by decide) ⟨_, rfl, rfl, _, rfl, eqF (by decide) ⟨_, rfl, rfl, _, rfl, eqT ⟨_, rfl, r, rfl, h⟩⟩⟩⟩⟩
    · exact ⟨_, rfl, rfl, _, rfl, eqF (by decide) ⟨_, rfl, rfl, _, rfl, eqF (by decide) ⟨_, rfl, rfl, _, rfl, eqF (by decide) ⟨_, rfl, rfl, _, rfl, eqF (by decide) ⟨_, rfl, rfl, _, rfl, eqT ⟨_, rfl, r, rfl, h⟩⟩⟩⟩⟩⟩
    · obtain ⟨l, ok, pu, tabs, k⟩ := h
      refine ⟨_, rfl, rfl, _, rfl, eqF (by decide) ⟨_, rfl, rfl, _, rfl, eqF (by decide) ⟨_, rfl, rfl, _, rfl, eqF (by decide) ⟨_, rfl, rfl, _, rfl, eqF (by decide) ⟨_, rfl, rfl, _, rfl, eqF (by decide) ⟨_, rfl, r.a, C.T, r.dx, _, _, rfl, ok.ins, TT.cl, TT.nVerdict, tF_verdict _, by show 1 ≤ sizeLine; decide, fun q hq => ?_⟩⟩⟩⟩⟩⟩
      exact Tells.one (o := fun _ => Sq40.says (r.verdict : Int)) (l := l) tabs k rfl (Same.refl H) hq
/-! ### answer_to -/
def spAnswerTo (K : PySem.W.Frag) (C : Cl) (T : List (Addr × Str)) : Sp := fun vs H Q _ => ∃ (a g : Addr) (p : Int) (as : List Int) (c : Sq40.Call), vs = [.ref a, .int p, .ref g] ∧ H g = some (.lst (as.map V.int)) ∧ (∀ x ∈ as, 0 ≤ x) ∧ callFor p as = some c ∧ Does C T c a H Q
theorem scAnswerTo : FnScope ["house", "call", "given"] ["house", "call", "given"] (defScope sAnswerTo) := ⟨rfl, rfl, rfl, by decide +kernel, rfl, by decide +kernel, by decide +kernel⟩
theorem ok_answerTo {f f1 f2 f3 f4 f5 f6 ft fa : Addr} {fd fd1 fd2 fd3 fd4 fd5 fd6 fdt fda : FuncData} (F : Fun K "answer_to" "answer_to" sAnswerTo f fd) (TH : TxtH K mg C.H) (TA : TxtA mg)
    (G1 : FnOk P w K mg base CX0 2 f1 fd1 ["self", "quiet", "slow", "each"] (spBegin C T)) (m1 : Meth K C.H "begin" f1) (b1 : Binds K fd1 ["self", "quiet", "slow", "each"] [])
    (G2 : FnOk P w K mg base CX0 3 f2 fd2 ["self", "trace_number", "span"] (spSpan C T)) (m2 : Meth K C.H "span" f2) (b2 : Binds K fd2 ["self", "trace_number", "span"] [])
    (G3 : FnOk P w K mg base CX0 3 f3 fd3 ["self", "now"] (spTick C T)) (m3 : Meth K C.H "tick" f3) (b3 : Binds K fd3 ["self", "now"] [])
    (G4 : FnOk P w K mg base CX0 3 f4 fd4 ["self"] (spKept C T)) (m4 : Meth K C.H "kept" f4) (b4 : Binds K fd4 ["self"] [])
    (G5 : FnOk P w K mg base CX0 3 f5 fd5 ["self"] (spCallsTold C T)) (m5 : Meth K C.H "calls_told" f5) (b5 : Binds K fd5 ["self"] [])
    (G6 : FnOk P w K mg base CX0 6 f6 fd6 ["self", "how_many"] (spSlowest C T)) (m6 : Meth K C.H "slowest" f6) (b6 : Binds K fd6 ["self", "how_many"] [])
    (Gt : FnOk P w K mg base CX0 3 ft fdt ["given"] (spTold K C)) (gt : mg "told_span" = some (.ref ft)) (kt : PySem.W.keepIn K (.ref ft) = true) (bt : Binds K fdt ["given"] [])
    (Ga : FnOk P w K mg base CX0 6 fa fda ["trace", "call", "given"] (spAnswerAbout C T)) (ga : mg "answer_about" = some (.ref fa)) (ka : PySem.W.keepIn K (.ref fa) = true) (ba : Binds K fda ["trace", "call", "given"] []) :
    FnOk P w K mg base CX0 7 f fd ["house", "call", "given"] (spAnswerTo K C T) := by
  obtain ⟨t1, e1⟩ := TA.begin_
  obtain ⟨t2, e2⟩ := TA.span
  obtain ⟨t3, e3⟩ := TA.tick
  obtain ⟨t4, e4⟩ := TA.kept
  obtain ⟨t5, e5⟩ := TA.calls
  obtain ⟨t6, e6⟩ := TA.slowest
  obtain ⟨t7, e7⟩ := TH.notrace
  refine F.ok scAnswerTo (fun vs H Q E h => ?_) (fun cdv A outer s H vs Q E hr h => ?_)
  · obtain ⟨a, g, p, as, c, rfl, _⟩ := h
    rfl
  · have hu := hu_of hr
    have hr2 : Room 2 (A.deeper (envOfC "answer_to" (defScope sAnswerTo) s.heap.objs.size f cdv)) := hr.mono (by decide)
    have hr3 : Room 3 (A.deeper (envOfC "answer_to" (defScope sAnswerTo) s.heap.objs.size f cdv)) := hr.mono (by decide)
    refine ⟨_, pss_cons (ps_if (pt_cmpR op_eq (pv 1) (pe_glob (v := .int 1) rfl e1 ⟨_, rfl⟩) (nomark _)) (pss_one (ps_ret (pe_meth (pv 0) TH.cl m1 G1 hr2 b1 .nil pass0 (pa_cons (pe_ix ix_list (pv 2) pe_int (fun _ _ => rfl)) (pa_cons (pe_ix ix_list (pv 2) pe_int (fun _ _ => rfl)) (pa_cons (pe_ix ix_list (pv 2) pe_int (fun _ _ => rfl)) pa_nil)))))) pss_nil)
      (pss_cons (ps_if (pt_cmpR op_eq (pv 1) (pe_glob (v := .int 2) rfl e2 ⟨_, rfl⟩) (nomark _)) (pss_one (ps_ret (pe_meth (pv 0) TH.cl m2 G2 hr3 b2 .nil pass0 (pa_cons (pe_ix ix_list (pv 2) pe_int (fun _ _ => rfl)) (pa_cons (pe_call Gt hr3 rfl gt kt bt .nil pass0 (pa_cons (pe_slice sl_list (pv 2) (po_some pe_int) po_none) pa_nil)) pa_nil))))) pss_nil)
      (pss_cons (ps_if (pt_cmpR op_eq (pv 1) (pe_glob (v := .int 3) rfl e3 ⟨_, rfl⟩) (nomark _)) (pss_one (ps_ret (pe_meth (pv 0) TH.cl m3 G3 hr3 b3 .nil pass0 (pa_cons (pe_ix ix_list (pv 2) pe_int (fun _ _ => rfl)) pa_nil)))) pss_nil)
      (pss_cons (ps_if (pt_cmpR op_eq (pv 1) (pe_glob (v := .int 10) rfl e4 ⟨_, rfl⟩) (nomark _)) (pss_one (ps_ret (pe_meth0 (pv 0) TH.cl m4 G4 hr3 b4 .nil pass0))) pss_nil)
      (pss_cons (ps_if (pt_cmpR op_eq (pv 1) (pe_glob (v := .int 11) rfl e5 ⟨_, rfl⟩) (nomark _)) (pss_one (ps_ret (pe_meth0 (pv 0) TH.cl m5 G5 hr3 b5 .nil pass0))) pss_nil)
      (pss_cons (ps_if (pt_cmpR op_eq (pv 1) (pe_glob (v := .int 12) rfl e6 ⟨_, rfl⟩) (nomark _)) (pss_one (ps_ret (pe_meth (pv 0) TH.cl m6 G6 hr b6 .nil pass0 (pa_cons (pe_ix ix_list (pv 2) pe_int (fun _ _ => rfl)) pa_nil)))) pss_nil)
      (pss_cons (ps_if (pt_cmp (pc_dnotin hu (pe_ix ix_list (pv 2) pe_int (fun _ _ => rfl)) (pe_fld (pv 0) rfl))) (pss_one (ps_ret (pe_lst (pa_cons (pe_glob (v := .int (-2)) rfl e7 ⟨_, rfl⟩) pa_nil)))) pss_nil)
      (pss_one (ps_ret (pe_call Ga hr rfl ga ka ba .nil pass0 (pa_cons (pe_dget hu (pe_fld (pv 0) rfl) (pe_ix ix_list (pv 2) pe_int (fun _ _ => rfl)) (fun _ _ => rfl)) (pa_cons (pv 1) (pa_cons (pv 2) pa_nil)))))))))))), ?_⟩
    obtain ⟨a, g, p, as, c, rfl, hg, hpos, hc, dz⟩ := h
    have dz0 := dz
    obtain ⟨m, h, dx, dT, ha, R, tabs, k⟩ := dz0
    have big : (∃ q s e : Nat, p = 1 ∧ as = [(q : Int), (s : Int), (e : Int)] ∧ c = .begin_ q s e) ∨
        (∃ t i u s b e f : Nat, p = 2 ∧ as = [(t : Int), (i : Int), (u : Int), (s : Int), (b : Int), (e : Int), (f : Int)] ∧ c = .span t i u s b e f) ∨
        (∃ n : Nat, p = 3 ∧ as = [(n : Int)] ∧ c = .tick n) ∨ (p = 10 ∧ as = [] ∧ c = .kept) ∨ (p = 11 ∧ as = [] ∧ c = .calls) ∨ (∃ n : Nat, p = 12 ∧ as = [(n : Int)] ∧ c = .slowest n) ∨
        (∃ (n : Nat) (rest : List Int), as = (n : Int) :: rest ∧ (p ≠ 1 ∧ p ≠ 2 ∧ p ≠ 3 ∧ p ≠ 10 ∧ p ≠ 11 ∧ p ≠ 12) ∧ ((∀ r ∈ m.ts, r.n ≠ n) → h.step c = (h, Sq40.says (-2))) ∧
          (∀ r ∈ m.ts, r.n = n → ((p = 4 ∧ Tells C T oTree r H Q) ∨ (p = 5 ∧ ∃ n i : Nat, as = [(n : Int), (i : Int)] ∧ Tells C T (oAlone i) r H Q) ∨ (p = 6 ∧ Tells C T oPath r H Q) ∨ (p = 7 ∧ Tells C T oHung r H Q) ∨ (p = 8 ∧ Tells C T oFaults r H Q) ∨ (p = 9 ∧ Tells C T (fun _ => Sq40.says (r.verdict : Int)) r H Q)))) := by
      rcases call_cases hc hpos with q | q | q | ⟨n, rfl, rfl, rfl⟩ | ⟨n, i, rfl, rfl, rfl⟩ | ⟨n, rfl, rfl, rfl⟩ | ⟨n, rfl, rfl, rfl⟩ | ⟨n, rfl, rfl, rfl⟩ | ⟨n, rfl, rfl, rfl⟩ | q | q | q
      · exact .inl q
      · exact .inr (.inl q)
      · exact .inr (.inr (.inl q))
      · refine .inr (.inr (.inr (.inr (.inr (.inr ⟨n, [], rfl, by decide, fun hno => (step_tree h n).trans (at_none (R.none hno)), fun r hr e => .inl ⟨rfl, ?_⟩⟩)))))
        subst e
        exact Does.tells ha R tabs k hr ((step_tree h r.n).trans (at_some (R.some hr)))
      · refine .inr (.inr (.inr (.inr (.inr (.inr ⟨n, [(i : Int)], rfl, by decide, fun hno => (step_alone h n i).trans (at_none (R.none hno)), fun r hr e => .inr (.inl ⟨rfl, n, i, rfl, ?_⟩)⟩)))))
        subst e
        exact Does.tells ha R tabs k hr ((step_alone h r.n i).trans (at_some (R.some hr)))
      · refine .inr (.inr (.inr (.inr (.inr (.inr ⟨n, [], rfl, by decide, fun hno => (step_path h n).trans (at_none (R.none hno)), fun r hr e => .inr (.inr (.inl ⟨rfl, ?_⟩))⟩)))))
        subst e
        exact Does.tells ha R tabs k hr ((step_path h r.n).trans (at_some (R.some hr)))
      · refine .inr (.inr (.inr (.inr (.inr (.inr ⟨n, [], rfl, by decide, fun hno => (step_hung h n).trans (at_none (R.none hno)), fun r hr e => .inr (.inr (.inr (.inl ⟨rfl, ?_⟩)))⟩)))))
        subst e
        exact Does.tells ha R tabs k hr ((step_hung h r.n).trans (at_some (R.some hr)))
      · refine .inr (.inr (.inr (.inr (.inr (.inr ⟨n, [], rfl, by decide, fun hno => (step_faults h n).trans (at_none (R.none hno)), fun r hr e => .inr (.inr (.inr (.inr (.inl ⟨rfl, ?_⟩))))⟩)))))
        subst e
        exact Does.tells ha R tabs k hr ((step_faults h r.n).trans (at_some (R.some hr)))
      · refine .inr (.inr (.inr (.inr (.inr (.inr ⟨n, [], rfl, by decide, fun hno => step_fate_no R hno, fun r hr e => .inr (.inr (.inr (.inr (.inr ⟨rfl, ?_⟩))))⟩)))))
        subst e
        exact Does.tells ha R tabs k hr (step_fate R hr)
      · exact .inr (.inr (.inr (.inl q)))
      · exact .inr (.inr (.inr (.inr (.inl q))))
      · exact .inr (.inr (.inr (.inr (.inr (.inl q)))))
    rcases big with ⟨q, s', e, rfl, rfl, rfl⟩ | ⟨t, i, u, s', b, e, f', rfl, rfl, rfl⟩ | ⟨n, rfl, rfl, rfl⟩ | ⟨rfl, rfl, rfl⟩ | ⟨rfl, rfl, rfl⟩ | ⟨n, rfl, rfl, rfl⟩ | ⟨n, rest, rfl, ⟨p1, p2, p3, p10, p11, p12⟩, no, yes⟩
    · exact ⟨_, rfl, rfl, _, rfl, eqT ⟨_, rfl, a, dx, _, rfl, ha.ins, hF_none _ dT (by decide +kernel), _, rfl, g, _, 0, _, rfl, rfl, SqL.of hg, atI_nat (j := 0) rfl, _, rfl, g, _, 1, _, rfl, rfl, SqL.of hg, atI_nat (j := 1) rfl, _, rfl, g, _, 2, _, rfl, rfl, SqL.of hg, atI_nat (j := 2) rfl, a, q, s', e, rfl, dz⟩⟩
    · refine ⟨_, rfl, rfl, _, rfl, eqF (by decide) ⟨_, rfl, rfl, _, rfl, eqT ⟨_, rfl, a, dx, _, rfl, ha.ins, hF_none _ dT (by decide +kernel), _, rfl, g, _, 0, _, rfl, rfl, SqL.of hg, atI_nat (j := 0) rfl, _, rfl, _, rfl, g, _, rfl, SqL.of hg, fun g2 hg2 => ?_⟩⟩⟩
      have sg := sameUpd (o := .lst (cutV ([(t : Int), (i : Int), (u : Int), (s' : Int), (b : Int), (e : Int), (f' : Int)].map V.int) (some 1) none)) hg2
      refine ⟨g2, i, u, s', b, e, f', rfl, SqL.of upd_same, fun H2 p2 s2 hp2 hsp => ?_⟩
      exact ⟨a, p2, t, i, u, s', b, e, f', rfl, hsp t, dz.same (sg.trans s2)⟩
    · exact ⟨_, rfl, rfl, _, rfl, eqF (by decide) ⟨_, rfl, rfl, _, rfl, eqF (by decide) ⟨_, rfl, rfl, _, rfl, eqT ⟨_, rfl, a, dx, _, rfl, ha.ins, hF_none _ dT (by decide +kernel), _, rfl, g, _, 0, _, rfl, rfl, SqL.of hg, atI_nat (j := 0) rfl, a, n, rfl, dz⟩⟩⟩⟩
    · exact ⟨_, rfl, rfl, _, rfl, eqF (by decide) ⟨_, rfl, rfl, _, rfl, eqF (by decide) ⟨_, rfl, rfl, _, rfl, eqF (by decide) ⟨_, rfl, rfl, _, rfl, eqT ⟨_, rfl, a, dx, _, rfl, ha.ins, hF_none _ dT (by decide +kernel), a, rfl, dz⟩⟩⟩⟩⟩
    · exact ⟨_, rfl, rfl, _, rfl, eqF (by decide) ⟨_, rfl, rfl, _, rfl, eqF (by decide) ⟨_, rfl, rfl, _, rfl, eqF (by decide) ⟨_, rfl, rfl, _, rfl, eqF (by decide) ⟨_, rfl, rfl, _, rfl, eqT ⟨_, rfl, a, dx, _, rfl, ha.ins, hF_none _ dT (by decide +kernel), a, rfl, dz⟩⟩⟩⟩⟩⟩
    · exact ⟨_, rfl, rfl, _, rfl, eqF (by decide) ⟨_, rfl, rfl, _, rfl, eqF (by decide) ⟨_, rfl, rfl, _, rfl, eqF (by decide) ⟨_, rfl, rfl, _, rfl, eqF (by decide) ⟨_, rfl, rfl, _, rfl, eqF (by decide) ⟨_, rfl, rfl, _, rfl, eqT ⟨_, rfl, a, dx, _, rfl, ha.ins, hF_none _ dT (by decide +kernel), _, rfl, g, _, 0, _, rfl, rfl, SqL.of hg, atI_nat (j := 0) rfl, a, n, rfl, dz⟩⟩⟩⟩⟩⟩⟩
    · refine ⟨_, rfl, rfl, _, rfl, eqF p1 ⟨_, rfl, rfl, _, rfl, eqF p2 ⟨_, rfl, rfl, _, rfl, eqF p3 ⟨_, rfl, rfl, _, rfl, eqF p10 ⟨_, rfl, rfl, _, rfl, eqF p11 ⟨_, rfl, rfl, _, rfl, eqF p12 ⟨_, rfl, g, _, 0, _, rfl, rfl, SqL.of hg, atI_nat (j := 0) rfl, _, rfl, a, C.H, dx, _, _, rfl, ha.ins, TH.cl, TH.nTraces, hF_traces m dT, dT, _, rfl, DGet.k (k := Sum.inl (n : Int)) ha.dict, _, rfl, ?_⟩⟩⟩⟩⟩⟩⟩
      by_cases ex : ∃ r ∈ m.ts, r.n = n
      · obtain ⟨r, hrm, rfl⟩ := ex
        have vv := kvT_val R.nd hrm
        rw [vv]
        have dg := DGet.k (k := Sum.inl (r.n : Int)) ha.dict
        rw [vv] at dg
        exact iteF ⟨_, rfl, a, C.H, dx, _, _, rfl, ha.ins, TH.cl, TH.nTraces, hF_traces m dT, _, rfl, g, _, 0, _, rfl, rfl, SqL.of hg, atI_nat (j := 0) rfl, dT, _, rfl, dg, _, rfl, _, rfl, r, g, p, _, rfl, hg, yes r hrm rfl⟩
      · have hno : ∀ r ∈ m.ts, r.n ≠ n := fun r hr z => ex ⟨r, hr, z⟩
        rw [kvT_no hno]
        exact iteT ⟨by show 1 ≤ sizeLine; decide, fun q hq => Does.refuse ha R tabs k (no hno) (Same.refl H) hq⟩
end
end Tr
/-! # d[k] of a module's dict whose keys and values are whole numbers -/
namespace Tr
open PySem PySem.Spec PyProof.Rows L2
/-- an entry of whole numbers -/
def intEnt (e : DictEntry) : Option (Int × Int) := match e.key, e.val with
  | .int k _, .int v _ => if e.hash = hashInt k then some (k, v) else none
  | _, _ => none
def intEnts : List DictEntry → Option (List (Int × Int))
  | [] => some []
  | e :: r => match intEnt e, intEnts r with
    | some p, some q => some (p :: q)
    | _, _ => none
/-- the written dict at d has just these pairs -/
def KInts (K : PySem.W.Frag) (d : Addr) (kvs : List (Int × Int)) : Prop := ∃ es n, K.lookup d = some ⟨.type "dict", none, .dict es n, #[]⟩ ∧ intEnts es.toList = some kvs ∧ (kvs.map (·.1)).Nodup
theorem intEnt_some {e : DictEntry} {p : Int × Int} (h : intEnt e = some p) : ∃ t u, e.key = .int p.1 t ∧ e.val = .int p.2 u ∧ e.hash = hashInt p.1 := by
  unfold intEnt at h
  split at h
  · rename_i k t v u hk hv
    split at h
    · rename_i hh
      cases h
      exact ⟨t, u, hk, hv, hh⟩
    · cases h
  · cases h
section
variable {pg : Program} {wd : World}
theorem intEnts_pairs : ∀ {es : List DictEntry} {kvs : List (Int × Int)}, intEnts es = some kvs → ∃ vs : List (Key × Value), Pairs (mixKind pg wd) es vs ∧ vs.map (·.1) = kvs.map (fun p => Sum.inl p.1) ∧ (∀ e ∈ es, ∃ k, (mixKind pg wd).is k e.key = true ∧ e.hash = (mixKind pg wd).hash k) ∧
    ∀ k v, (k, v) ∈ kvs → ∃ t, (Sum.inl k, Value.int v t) ∈ vs
  | [], kvs, h => by
    cases h
    exact ⟨[], .nil, rfl, fun _ z => (by cases z), fun _ _ z => (by cases z)⟩
  | e :: r, kvs, h => by
    unfold intEnts at h
    split at h
    · rename_i p q hp hq
      cases h
      obtain ⟨vs, h1, h2, h3, h4⟩ := intEnts_pairs hq
      obtain ⟨t, u, k1, k2, k3⟩ := intEnt_some hp
      have hk : (mixKind pg wd).is (Sum.inl p.1) e.key = true := by
        rw [k1]
        exact mixKind_int pg wd _ _
      refine ⟨(Sum.inl p.1, .int p.2 u) :: vs, .cons hk k2 h1, by rw [List.map_cons, List.map_cons, h2], fun z hz => ?_, fun k v hkv => ?_⟩
      · rcases List.mem_cons.mp hz with rfl | hz
        · exact ⟨Sum.inl p.1, hk, k3⟩
        · exact h3 z hz
      · rcases List.mem_cons.mp hkv with e1 | hkv
        · cases e1
          exact ⟨u, List.mem_cons_self⟩
        · obtain ⟨t2, z⟩ := h4 k v hkv
          exact ⟨t2, List.mem_cons_of_mem _ z⟩
    · cases h
end
def rIxI (K : PySem.W.Frag) : R2 := fun x y H Q => ∃ (d : Addr) (kvs : List (Int × Int)) (k v : Int), x = .ref d ∧ y = .int k ∧ KInts K d kvs ∧ (k, v) ∈ kvs ∧ Q (.int v) H
section
variable {X : Cx}
theorem ix_ints : IxR X (rIxI X.K) := by
  intro value slice pins s σ H x y v u Q I rx ry h hs
  obtain ⟨d, kvs, k, z, rfl, rfl, ⟨es, n, hl, he, nd⟩, hm, q⟩ := h
  obtain rfl : v = Value.ref d := rx
  obtain ⟨vs, h1, h2, h3, h4⟩ := intEnts_pairs (pg := X.prog) (wd := X.w) he
  obtain ⟨t, hv⟩ := h4 k z hm
  have nd2 : (vs.map (·.1)).Nodup := by
    rw [h2]
    have e : kvs.map (fun p => (Sum.inl p.1 : Key)) = (kvs.map (·.1)).map Sum.inl := by
      rw [List.map_map]
      rfl
    rw [e]
    unfold List.Nodup at nd ⊢
    rw [List.pairwise_map]
    exact nd.imp fun q z => q (Sum.inl.inj z)
  have dd : s.heap.DictOf (mixKind X.prog X.w) d vs := ⟨_, es, n, I.kIn _ _ hl, ⟨rfl, rfl, rfl⟩, rfl, fun e he => h3 e (Array.mem_toList_iff.mpr he), h1, nd2⟩
  have hva : valueAt vs (Sum.inl k) = some (.int z t) := by
    unfold valueAt
    have : vs.find? (fun kv => decide (kv.1 = Sum.inl k)) = some (Sum.inl k, .int z t) := by
      clear dd h1 h2 h4
      induction vs with
      | nil => cases hv
      | cons a r ih =>
        rw [List.map_cons, List.nodup_cons] at nd2
        rw [List.find?_cons]
        rcases List.mem_cons.mp hv with e | hv
        · subst e
          simp
        · by_cases c : a.1 = Sum.inl k
          · exact absurd (List.mem_map.mpr ⟨_, hv, c.symm⟩) nd2.1
          · rw [decide_eq_false c]
            exact ih hv nd2.2
    rw [this]
    rfl
  exact tail_any (dd.mapOf).typeIs slot_dict_getitem.lookup (wpAny_getItem_of (kV_is (k := Sum.inl k) ry) dd.mapOf hva ⟨.int z, H, I.tok _, ⟨t, rfl⟩, q⟩) hs
end
end Tr
namespace Tr
open PySem PySem.Spec PyProof.Rows L2
abbrev sAnswers : Stmt := top 52
theorem cut_is (xs : List V) {p n : Nat} (h : p + n ≤ xs.length) : cutV xs (some (p : Int)) (some ((p + n : Nat) : Int)) = (xs.drop p).take n := by
  unfold cutV
  rw [HT.sIx_nat, HT.sIx_nat, Nat.min_eq_left (by omega), Nat.min_eq_left (by omega), Nat.add_sub_cancel_left]
section
variable {P : Program} {w : World} {K : PySem.W.Frag} {mg : Str → Option Value} {base : Heap} {C : Cl} {T : List (Addr × Str)}
def spAnswers (K : PySem.W.Frag) (T : List (Addr × Str)) : Sp := fun vs H Q _ => ∃ (ad : Addr) (ns : List Int), vs = [.ref ad] ∧ SqL K H ad (ns.map V.int) ∧ (∀ x ∈ ns, 0 ≤ x) ∧ PySq40.answers_asked ns = true ∧ LamX.Tabs T H ∧
  ∀ (H' : Hp) (q : Addr), H' q = some (.lst ((PySq40.answers ns).map V.int)) → Q (.ref q) H'
theorem scAnswers : FnScope ["calls", "house", "answered", "place", "call", "behind", "answer"] ["calls"] (defScope sAnswers) := ⟨rfl, rfl, rfl, by decide +kernel, rfl, by decide +kernel, by decide +kernel⟩
theorem ok_answers {f fi fa D : Addr} {fd fdi fda : FuncData} {wds : List (Int × Int)} (F : Fun K "answers" "answers" sAnswers f fd) (N : TxtN mg) (MH : Mk K C.H fi) (gH : mg "House" = some (.ref C.H))
    (Gi : FnOk P w K mg base CX0 2 fi fdi ["self", "quiet", "slow", "each"] (spHInit C)) (bi : Binds K fdi ["self", "quiet", "slow", "each"] [])
    (gW : mg "WIDTHS" = some (.ref D)) (kW : KInts K D wds) (hW : ∀ p n, PySq40.shape p = some (n, 0) → (p, (n : Int)) ∈ wds)
    (Ga : FnOk P w K mg base CX0 7 fa fda ["house", "call", "given"] (spAnswerTo K C T)) (ga : mg "answer_to" = some (.ref fa)) (ka : PySem.W.keepIn K (.ref fa) = true) (ba : Binds K fda ["house", "call", "given"] []) :
    FnOk P w K mg base CX0 8 f fd ["calls"] (spAnswers K T) := by
  refine F.ok scAnswers (fun vs H Q E h => ?_) (fun cdv A outer s H vs Q E hr h => ?_)
  · obtain ⟨ad, ns, rfl, _⟩ := h
    rfl
  · refine ⟨_, pss_cons (ps_set (i := 1) scAnswers.nd rfl (Or.inl rfl) (pe_make MH Gi (hr.mono (by decide)) rfl gH bi .nil pass0 (pa_cons pe_int (pa_cons pe_int (pa_cons pe_int pa_nil)))))
      (pss_cons (ps_set (i := 2) scAnswers.nd rfl (Or.inl rfl) (pe_lst pa_nil))
      (pss_cons (ps_set (i := 3) scAnswers.nd rfl (Or.inl rfl) pe_int)
      (pss_cons (ps_while PassesOwn.never (pt_cmpR op_lt (pv 3) (pe_callB call_len_seq (by rfl) N.len PySem.boot_len (pa_cons (pv 0) pa_nil)) (nomark _))
        (pss_cons (ps_set (i := 4) scAnswers.nd rfl (Or.inl rfl) (pe_ix ix_list (pv 0) (pv 3) (fun _ _ => rfl)))
        (pss_cons (ps_set (i := 5) scAnswers.nd rfl (Or.inl rfl) (pe_op op_add (pe_op op_add (pv 3) pe_int) (pe_ix ix_ints (pe_glob (v := .ref D) rfl gW rfl) (pv 4) (fun _ _ => rfl))))
        (pss_cons (ps_set (i := 6) scAnswers.nd rfl (Or.inl rfl) (pe_call Ga hr rfl ga ka ba .nil pass0 (pa_cons (pv 1) (pa_cons (pv 4) (pa_cons (pe_slice sl_list (pv 0) (po_some (pe_op op_add (pv 3) pe_int)) (po_some (pv 5))) pa_nil)))))
        (pss_cons (ps_expr (pe_bm PySem.F.plainAttrs_list PySem.F.slot_list_append PySem.F.type_list_append mt_append (pv 2) (pa_cons (pe_callB call_len_seq (by rfl) N.len PySem.boot_len (pa_cons (pv 6) pa_nil)) pa_nil)))
        (pss_cons (ps_expr (pe_bm PySem.F.plainAttrs_list PySem.F.slot_list_extend PySem.F.type_list_extend mt_extend (pv 2) (pa_cons (pv 6) pa_nil)))
        (pss_one (ps_set (i := 3) scAnswers.nd rfl (Or.inl rfl) (pv 5)))))))))
      (pss_one (ps_ret (pv 2)))))), ?_⟩
    obtain ⟨ad, ns, rfl, hS, hpos, hask, tabs, k⟩ := h
    obtain ⟨at0, lenA⟩ := at_start hask
    intro hs dx nx ndx ne
    refine ⟨hs, dx, 10, 100, 10, rfl, upd_same, fun H1 dT i1 i2 i3 i4 => ⟨rfl, ?_⟩⟩
    have s1 : Same H H1 := Same.made nx ndx i4
    have ha1 : HouseAt C H1 hs ⟨10, 100, 10, 0, []⟩ dx dT := ⟨i1, i2, fun _ z => (by cases z), List.nodup_nil, List.nodup_nil, fun _ z => (by cases z), fun _ z => (by cases z)⟩
    refine ⟨Nat.zero_le _, fun q hq => ?_⟩
    have sq := sameUpd (o := .lst []) hq
    have hqn : H q = none := s1.free hq
    have keepq : ∀ {H' : Hp} {o : HO}, KeepL H H' → KeepL H (upd H' q o) := fun {H' o} kq b u hb hm => by
      rw [upd_ne (ne_of_none hb hqn)]
      exact kq b u hb hm
    refine ⟨fun mm σ H' => ∃ (place : Nat) (h : Sq40.House) (out : List Int) (m : HM) (dx dT : Addr) (v4 v5 v6 : Option V), σ = [some (.ref ad), some (.ref hs), some (.ref q), some (.int place), v4, v5, v6] ∧ At ns place h out ∧ HouseAt C H' hs m dx dT ∧ Rel m h ∧ LamX.Tabs T H' ∧ KeepL H H' ∧ H' q = some (.lst (out.map V.int)) ∧ mm = ns.length - place,
      ⟨_, 0, Sq40.fresh, [], _, dx, dT, none, none, none, rfl, at0, ha1.same sq, rel_fresh, tabs.ext (s1.trans sq), KeepL.of (s1.trans sq), upd_same, rfl⟩, ?_⟩
    rintro mm σ H' ⟨place, h, out, m, dx', dT', v4, v5, v6, rfl, AT, ha, R, tb, kp, hq', rfl⟩
    have hS' := kp.seq hS
    refine ⟨_, rfl, _, rfl, ad, _, rfl, .inl hS', _, _, rfl, rfl, _, rfl, ?_⟩
    rw [List.length_map]
    by_cases c : (place : Int) < (ns.length : Int)
    · rw [decide_eq_true c]
      refine iteT ⟨_, fun σ' H'' z => z, ?_⟩
      obtain ⟨p, n, cc, g1, g2, g3, g4, g5, g6⟩ := AT.step (by omega)
      have hp0 : (ns.map V.int)[place]? = some (.int p) := by
        rw [List.getElem?_map, g1]
        rfl
      refine ⟨_, rfl, _, rfl, ad, _, (place : Int), .int p, rfl, rfl, hS', atI_nat hp0, ?_⟩
      refine ⟨_, rfl, _, _, rfl, rfl, _, rfl, D, wds, p, (n : Int), rfl, rfl, kW, hW p n g2, _, _, rfl, rfl, ?_⟩
      have eb : (place : Int) + 1 + (n : Int) = ((place + 1 + n : Nat) : Int) := by omega
      have ep : (place : Int) + 1 = ((place + 1 : Nat) : Int) := by omega
      refine ⟨_, rfl, _, rfl, _, rfl, _, rfl, _, _, rfl, rfl, _, rfl, _, rfl, _, rfl, ad, _, rfl, hS', fun g hg => ?_⟩
      have ecut : cutV (ns.map V.int) (some ((place : Int) + 1)) (some ((place : Int) + 1 + (n : Int))) = ((ns.drop (place + 1)).take n).map V.int := by
        rw [eb, ep, cut_is _ (by rw [List.length_map]; omega), List.map_take, List.map_drop]
      have sg := sameUpd (o := .lst (cutV (ns.map V.int) (some ((place : Int) + 1)) (some ((place : Int) + 1 + (n : Int))))) hg
      refine ⟨hs, g, p, _, cc, rfl, upd_same.trans (by rw [ecut]), fun x hx => hpos x (List.mem_of_mem_drop (List.mem_of_mem_take hx)), g4, m, h, dx', dT', ha.same sg, R, tb.ext sg, fun H2 q2 m2 dx2 dT2 ha2 R2 tb2 kp2 nl2 hq2 => ?_⟩
      have hqg := sg _ _ hq'
      have hqq := kp2 _ _ hqg rfl
      have nqq : q2 ≠ q := fun z => nl2 _ (by rw [z]; exact hqg)
      have sz : out.length + (1 + (ansOf (h.step cc).2).length) ≤ 10000000 := Nat.le_trans g6 lenA
      refine ⟨_, rfl, .inl ⟨rfl, _, SqL.of hqq⟩, _, rfl, q2, _, rfl, .inl (SqL.of hq2), q, _, _, rfl, rfl, hqq, ?_, ?_⟩
      · rw [List.length_map]
        exact Nat.lt_of_le_of_lt (show out.length ≤ 10000000 by omega) (by decide)
      have hq3 : upd H2 q (.lst (out.map V.int ++ [.int (((ans (h.step cc).2).map V.int).length : Nat)])) q2 = some (.lst ((ans (h.step cc).2).map V.int)) := (upd_ne nqq).trans hq2
      refine ⟨_, rfl, .inl ⟨rfl, _, SqL.of upd_same⟩, _, rfl, q, q2, _, _, rfl, rfl, upd_same, hq3, ?_, ?_⟩
      · rw [List.length_append, List.length_map, List.length_map]
        have : (ans (h.step cc).2).length = (ansOf (h.step cc).2).length := rfl
        exact Nat.le_trans (show out.length + 1 + (ans (h.step cc).2).length ≤ 10000000 by omega) (by decide)
      refine ⟨_, rfl, ns.length - (place + 1 + n), by omega, place + 1 + n, (h.step cc).1, _, m2, dx2, dT2, some (.int p), some (.int ((place : Int) + 1 + (n : Int))), some (.ref q2), ?_, g5, (ha2.lst hqq).lst upd_same, R2, fun y hy => ((tb2 y hy).lst hqq).lst upd_same, keepq (keepq ((kp.trans (KeepL.of sg)).trans kp2)), ?_, rfl⟩
      · rw [← eb]
        rfl
      · rw [upd_same, List.map_append, List.map_cons, List.length_map, List.append_assoc]
        rfl
    · rw [decide_eq_false c]
      refine iteF ⟨_, rfl, ?_⟩
      have e : place = ns.length := by
        have := AT.le
        omega
      subst e
      refine k H' q ?_
      rw [hq', AT.fin]
end
end Tr
/-! # The end of a row of a specification whose one argument is a list of whole numbers, with tables of code objects -/
namespace Tr
open PySem PySem.Spec PyProof.Rows L2 LamX
open PySem.W (WData Codec OpenSpec WellAll ReadsW)
/-- the list that was handed in, as it stands in the machine -/
abbrev argO (vs : List Value) : Obj := { cls := .type "list", data := .seq vs.toArray }
abbrev tabO : Obj := { cls := .none, data := .fields #[] }
/-- the state at the call: the written part, the names, the tables cs (code, table), the list at a -/
structure Scene (K : PySem.W.Frag) (mg mb : Str → Option Value) (cs : List (Addr × Addr)) (s : Shared) (a : Addr) (vs : List Value) (ns : List Int) : Prop where
  inK : K.In s.heap
  glob : s.heap.Ns mainGlobals mg
  blt : s.heap.Ns builtinsNs mb
  bltIs : ∀ x : Str, x ≠ "__name__" → mb x = bootBuiltins x
  lim : s.heap.NoLimit
  gens : s.gens = #[]
  tab : ∀ p ∈ cs, s.heap.get? p.2 = some tabO
  tabK : ∀ p ∈ cs, K.lookup p.2 = none
  code : ∀ p ∈ cs, PySem.W.CodeHd s.heap p.1 p.2
  bmod : ∃ (bm : Addr) (ob : Obj), mg "__builtins__" = some (.ref bm) ∧ bm ≠ builtinsNs ∧ s.heap.get? bm = some ob ∧ ob.cls = .type "module" ∧ ob.dict = some builtinsNs ∧ ob.data = .plain
  arg : s.heap.get? a = some (argO vs)
  nums : IntsAre vs ns
  len : ns.length ≤ sizeLine
/-- what is tracked at the call: the tables; the list, if it isn't a written one -/
def startH (K : PySem.W.Frag) (a : Addr) (vs : List Value) (ns : List Int) (ts : List Addr) : Hp := fun b => if b ∈ ts then some (.tbl #[]) else if b = a ∧ K.lookup a = none then some (.frz (argO vs) (.lst (ns.map V.int))) else none
theorem startH_is {K : PySem.W.Frag} {a b : Addr} {vs : List Value} {ns : List Int} {ts : List Addr} {u : HO} (h : startH K a vs ns ts b = some u) : (b ∈ ts ∧ u = .tbl #[]) ∨ (b ∉ ts ∧ b = a ∧ K.lookup a = none ∧ u = .frz (argO vs) (.lst (ns.map V.int))) := by
  unfold startH at h
  split at h
  · rename_i m
    exact .inl ⟨m, (Option.some.inj h).symm⟩
  · rename_i m
    split at h
    · rename_i q
      exact .inr ⟨m, q.1, q.2, (Option.some.inj h).symm⟩
    · exact nomatch h
theorem startH_tab {K : PySem.W.Frag} {a b : Addr} {vs : List Value} {ns : List Int} {ts : List Addr} (m : b ∈ ts) : startH K a vs ns ts b = some (.tbl #[]) := if_pos m
namespace Scene
variable {K : PySem.W.Frag} {mg mb : Str → Option Value} {cs : List (Addr × Addr)} {s : Shared} {a : Addr} {vs : List Value} {ns : List Int}
abbrev H0 (_ : Scene K mg mb cs s a vs ns) : Hp := startH K a vs ns (cs.map (·.2))
theorem tabAt (Z : Scene K mg mb cs s a vs ns) {b : Addr} (m : b ∈ cs.map (·.2)) : s.heap.get? b = some tabO ∧ K.lookup b = none := by
  obtain ⟨p, hp, rfl⟩ := List.mem_map.mp m
  exact ⟨Z.tab p hp, Z.tabK p hp⟩
theorem argNot (Z : Scene K mg mb cs s a vs ns) : a ∉ cs.map (·.2) := fun m => by
  have e := (Z.tabAt m).1.symm.trans Z.arg
  have e2 := congrArg (Option.map Obj.cls) e
  exact nomatch e2
/-- an object that is neither a list nor a table is not tracked -/
theorem free (Z : Scene K mg mb cs s a vs ns) {b : Addr} {o : Obj} (e : s.heap.get? b = some o) (h1 : o.cls ≠ .type "list") (h2 : o.cls ≠ .none) : Z.H0 b = none := by
  cases q : Z.H0 b with
  | none => rfl
  | some u =>
    exfalso
    rcases startH_is q with ⟨m, _⟩ | ⟨_, z, _⟩
    · have := (Z.tabAt m).1.symm.trans e
      cases this
      exact h2 rfl
    · rw [z] at e
      cases Z.arg.symm.trans e
      exact h1 rfl
theorem freeD (Z : Scene K mg mb cs s a vs ns) {b : Addr} {o : Obj} {es : Array DictEntry} {ep : Nat} (e : s.heap.get? b = some o) (d : o.data = .dict es ep) : Z.H0 b = none := by
  cases q : Z.H0 b with
  | none => rfl
  | some u =>
    exfalso
    rcases startH_is q with ⟨m, _⟩ | ⟨_, z, _⟩
    · cases (Z.tabAt m).1.symm.trans e
      exact nomatch d
    · rw [z] at e
      cases Z.arg.symm.trans e
      exact nomatch d
theorem freeK (Z : Scene K mg mb cs s a vs ns) {b : Addr} {o : Obj} (e : K.lookup b = some o) : Z.H0 b = none := by
  cases q : Z.H0 b with
  | none => rfl
  | some u =>
    exfalso
    rcases startH_is q with ⟨m, _⟩ | ⟨_, z, n, _⟩
    · rw [(Z.tabAt m).2] at e
      exact nomatch e
    · rw [z, n] at e
      exact nomatch e
theorem names (Z : Scene K mg mb cs s a vs ns) {b : Addr} {m : Str → Option Value} (h : s.heap.Ns b m) : (hidT s.heap Z.H0).Ns b m := by
  obtain ⟨o, es, ep, e, d, r⟩ := h
  exact ⟨o, es, ep, hidT_get e (Z.freeD e d), d, r⟩
theorem written (Z : Scene K mg mb cs s a vs ns) : K.In (hidT s.heap Z.H0) := fun b o e => hidT_get (Z.inK b o e) (Z.freeK e)
theorem module (Z : Scene K mg mb cs s a vs ns) : L2.Mod K mg (hidT s.heap Z.H0) where
  kin := Z.written
  glob := Z.names Z.glob
  blt := ⟨mb, Z.names Z.blt, Z.bltIs⟩
  nolimit := by
    obtain ⟨mc, h1, h2⟩ := Z.lim
    exact ⟨mc, Z.names h1, h2⟩
theorem globNot (Z : Scene K mg mb cs s a vs ns) {b : Addr} {o : Obj} (e : s.heap.get? b = some o) (h : ∀ es ep, o.data ≠ .dict es ep) : mainGlobals ≠ b := fun z => by
  obtain ⟨og, es, ep, eg, d, _⟩ := Z.glob
  rw [z, e] at eg
  cases eg
  exact h es ep d
theorem tables (Z : Scene K mg mb cs s a vs ns) {p : Addr × Addr} (hp : p ∈ cs) : TabB (hidT s.heap Z.H0) mg p.1 p.2 where
  code := by
    obtain ⟨o, us, file, tf, flags, tg, inF, text, tt, e1, r1, r⟩ := Z.code p hp
    exact ⟨o, us, file, tf, flags, tg, inF, text, tt, hidT_get e1 (Z.free e1 (by rw [r1]; decide) (by rw [r1]; decide)), r1, r⟩
  bm := by
    obtain ⟨bm, ob, b1, b2, b3, b4, b5, b6⟩ := Z.bmod
    refine ⟨bm, ob, b1, b2, (Z.globNot b3 fun es ep q => nomatch b6.symm.trans q).symm, fun q => ?_, hidT_get b3 (Z.free b3 (by rw [b4]; decide) (by rw [b4]; decide)), b4, b5, b6⟩
    rw [q] at b3
    cases (Z.tab p hp).symm.trans b3
    exact nomatch b4
  gP := Z.globNot (Z.tab p hp) fun _ _ q => nomatch q
theorem held (Z : Scene K mg mb cs s a vs ns) (P : Program) (w : World) : HOk P w Z.H0 s.heap := fun b u q => by
  rcases startH_is q with ⟨m, rfl⟩ | ⟨_, rfl, _, rfl⟩
  · exact (Z.tabAt m).1
  · exact ⟨Z.arg, by rw [List.length_map]; exact Z.len, vs, 0, vals_ints Z.nums, Z.arg⟩
theorem list (Z : Scene K mg mb cs s a vs ns) : SqL K Z.H0 a (ns.map V.int) := by
  cases q : K.lookup a with
  | none => exact .inl (.inr ⟨argO vs, (if_neg Z.argNot).trans (if_pos ⟨rfl, q⟩)⟩)
  | some o =>
    have eo := (Z.inK a o q).symm.trans Z.arg
    cases eo
    have hv : Vals (ns.map V.int) vs.toArray.toList := by
      rw [List.toList_toArray]
      exact vals_ints Z.nums
    exact .inr ⟨_, vs.toArray, _, q, rfl, rfl, rfl, Nat.le_trans (Nat.le_of_eq ((List.size_toArray ..).trans Z.nums.length)) Z.len, hv⟩
theorem env (Z : Scene K mg mb cs s a vs ns) (P : Program) (w : World) : Env0 P w K mg (hidT s.heap Z.H0) callerA [] s Z.H0 where
  frames := rfl
  mod := Z.module
  bs := fun b o e => of_hidT e
  bsz := Nat.le_of_eq (hidT_size _ _)
  funs := trivial
  frf := fun b hb => nomatch (show b ∈ ([] : List Addr) from hb)
  hok := Z.held P w
  bare := .of_eq Z.gens
/-- behind the call: all but the tables is as it was; the tables have grown -/
theorem behind (Z : Scene K mg mb cs s a vs ns) {P : Program} {w : World} {H' : Hp} {h' : Heap} (un : Un (frs []) [] Z.H0 H' s.heap h') (ok : HOk P w H' h') : (∀ b o, b ∉ cs.map (·.2) → s.heap.get? b = some o → h'.get? b = some o) ∧ ∀ b ∈ cs.map (·.2), ∃ more : Array Value, h'.get? b = some { cls := .none, data := .fields more } := by
  refine ⟨fun b o nb e => ?_, fun b m => ?_⟩
  · cases q : Z.H0 b with
    | none => exact un.keep b o e q (fun z => nomatch (show b ∈ ([] : List Addr) from z)) (fun z => nomatch z)
    | some u =>
      rcases startH_is q with ⟨m, _⟩ | ⟨_, z, _, rfl⟩
      · exact absurd m nb
      · rw [z] at e
        cases Z.arg.symm.trans e
        exact (ok b _ (un.frzs b _ _ q)).1
  · obtain ⟨more, z⟩ := un.tbls b #[] (startH_tab m)
    exact ⟨_, ok b _ z⟩
end Scene
theorem spec_callT {P : Program} {w : World} {K : PySem.W.Frag} {mg mb : Str → Option Value} {CX : CXT} {k : Nat} {fa a : Addr} {cs : List (Addr × Addr)} {fd : FuncData} {x : Str} {sp : Sp} {s : Shared} {vs : List Value} {ns : List Int} {R : PySem.W.WRecords} {cl : Str → Option Addr} {d0 : WData}
    (Z : Scene K mg mb cs s a vs ns) (hr : Room k callerA) (F : ∀ base : Heap, K.In base → base.Ns mainGlobals mg → (∀ p ∈ cs, TabB base mg p.1 p.2) → FnOk P w K mg base CX k fa fd [x] sp) (hbind : ∀ (s : Shared) (us : List Value), us.length = [x].length → BindsTo s fd ⟨us, []⟩ ([x].zip us))
    (hsp : ∀ H : Hp, (∀ p ∈ cs, H p.2 = some (.tbl #[])) → SqL K H a (ns.map V.int) → sp [.ref a] H (fun v H' => Dw K H' v d0) fun _ _ _ => False) (hCX : ∀ H e s', CX [] H s (fun _ _ _ => False) e s' → False) :
    codeAny (model P w) callerA (.call (.ref fa) ⟨[.ref a], []⟩) (fun r s' => ∃ u as, r = .ok (.ret u) ∧ ReadsW R cl s'.heap u d0 as ∧ OldK s.heap s'.heap ∧ s'.os = s.os ∧ AllBare s'.gens) s := by
  have inT : ∀ p ∈ cs, p.2 ∈ cs.map (·.2) := fun p hp => List.mem_map_of_mem hp
  have run := (F _ Z.written (Z.names Z.glob) fun p hp => Z.tables hp).run callerA [] s Z.H0 ⟨[.ref a], []⟩ [.ref a] [.ref a] _ _ hr (Z.env P w) (hbind s [.ref a] rfl) (.cons rfl .nil) (hsp Z.H0 (fun p hp => startH_tab (inT p hp)) Z.list)
  refine codeAny_mono run fun r s' h => ?_
  match r, h with
  | .error er, h => exact (hCX _ er s' h).elim
  | .ok (.ret u), h =>
    obtain ⟨v, H', os, bare, un, ok, rv, q⟩ := (show CE [] P w Z.H0 s (fun v H' => Dw K H' v d0) u s' from h)
    obtain ⟨same, grown⟩ := Z.behind un ok
    have inK' : K.In s'.heap := fun b o e => same b o (fun m => nomatch (Z.tabAt m).2.symm.trans e) (Z.inK b o e)
    obtain ⟨as, rd⟩ := Dw.reads (R := R) (cl := cl) ok inK' d0 v u q rv
    refine ⟨u, as, rfl, rd, ⟨fun b o e => ?_, fun b o e => ?_⟩, os, bare⟩
    · by_cases m : b ∈ cs.map (·.2)
      · obtain ⟨more, g⟩ := grown b m
        obtain ⟨p, hp, rfl⟩ := List.mem_map.mp m
        cases (Z.tab p hp).symm.trans e
        exact .inr (.inl ⟨((Z.code p hp).tab (Z.tab p hp)).isCodeTable, rfl, #[], more, rfl, by rw [Array.empty_append]; exact g⟩)
      · exact .inl (same b o m e)
    · by_cases m : b ∈ cs.map (·.2)
      · exact ⟨_, (grown b m).choose_spec⟩
      · exact ⟨o, same b o m e⟩
theorem well_intsOf {Pm : Params} {h : Heap} : ∀ {ns : List Int} {vs : List Value}, WellAll Pm h vs (ns.map WData.int) → IntsAre vs ns
  | [], vs, x => by
    cases x
    exact .nil
  | n :: ns, vs, x => by
    cases x with
    | cons x1 x2 =>
      cases x1
      exact .cons _ _ (well_intsOf x2)
theorem walk_specT {r : OpenSpec} {k : Nat} {q : Program} {loose : List Str} {XP : (Str → Option Value) → Heap → Prop} {YP : World → Heap → Prop} {d : DefRec} {K : Params → PySem.W.Frag} {CX : CXT} {x : Str} {sp : PySem.W.Frag → List (Addr × Addr) → Sp}
    (hwell : r.wellSaid = true) (hdf : d.params.defaults = []) (hr : Room k callerA) (hY : ∀ (w : World) (h : Heap), YP w h → (K w.params).In h)
    (F : ∀ (w : World) (s0 : Shared) (mg mb : Str → Option Value) (fa : Addr) (h : Heap), PySem.W.Ground q loose [] XP w s0 mg mb h → YP w h → (K w.params).In h → mg d.name = some (.ref fa) →
      ∃ (fd : FuncData) (cs : List (Addr × Addr)), (∀ p ∈ cs, h.get? p.2 = some { cls := .none, data := .fields #[] }) ∧ (∀ p ∈ cs, (K w.params).lookup p.2 = none) ∧ (∀ p ∈ cs, PySem.W.CodeHd h p.1 p.2) ∧ (∀ (s : Shared) (us : List Value), us.length = [x].length → BindsTo s fd ⟨us, []⟩ ([x].zip us)) ∧
        ∀ base : Heap, (K w.params).In base → base.Ns mainGlobals mg → (∀ p ∈ cs, TabB base mg p.1 p.2) → FnOk r.prog w (K w.params) mg base CX k fa fd [x] (sp (K w.params) cs))
    (hone : ∀ a : Codec.denoteAll r.args, Codec.withinAll r.args a = true → ∃ ns : List Int, Codec.encAll r.args a = [WData.list (ns.map WData.int)] ∧ ns.length ≤ sizeLine)
    (hsp : ∀ (K : PySem.W.Frag) (cs : List (Addr × Addr)) (H : Hp) (ad : Addr) (ns : List Int) (a : Codec.denoteAll r.args), Codec.withinAll r.args a = true → Codec.app r.args r.asked a = true → Codec.encAll r.args a = [WData.list (ns.map WData.int)] → (∀ p ∈ cs, H p.2 = some (.tbl #[])) → SqL K H ad (ns.map V.int) →
      sp K cs [.ref ad] H (fun v H' => Dw K H' v (r.ret.enc (Codec.app r.args r.f a))) fun _ _ _ => False)
    (never : ∀ (H : Hp) (s : Shared) (e : Value) (s' : Shared), CX [] H s (fun _ _ _ => False) e s' → False) : PySem.W.WalkOS q loose XP YP r d [] (fun f vs => PySem.call f vs) := by
  intro w s0 s mg mb G Y fa o pm cd doc dV kV ho hd hcd hD hmg hg args vals as hpre hlay hrd hwl hlo
  obtain ⟨a, d1, d2⟩ := PySem.W.os_pre_some hpre
  have dz := Codec.encAll_of_decAll r.args args a d1
  have inn := dz.2
  have ea := dz.1
  subst ea
  obtain ⟨ns, en, few⟩ := hone a inn
  rw [en] at hwl
  obtain ⟨v, rest, rfl, w1, w2⟩ := well_cons hwl
  cases w2
  obtain ⟨ad, vs, rfl, obj, each⟩ := well_list w1
  obtain ⟨fd, cs, tab, tabK, code, bind, fn⟩ := F w s0 mg mb fa _ G Y (hY w _ Y) hmg
  have Z : Scene (K w.params) mg mb cs s ad vs ns := ⟨hY w _ Y, G.T.g, G.T.b, G.T.builtins, G.T.nolimit, hg, tab, tabK, code, G.T.bmain, obj, well_intsOf each, few⟩
  have run := spec_callT (P := r.prog) (w := w) (R := []) (cl := classAt s0.heap) (d0 := r.ret.enc (Codec.app r.args r.f a)) Z hr fn bind (fun H hH hS => hsp _ cs H ad ns a inn d2 en hH hS) fun H e s' => never H s e s'
  refine PySem.W.enter_call (codeAny_mono run fun r2 s' ⟨u, as2, e2, h1, h2, h3, h4⟩ => ?_)
  subst e2
  exact ⟨.inl ⟨u, _, as2, rfl, fun _ => rfl, h1, (OpenSpec.post_iff hwell inn _ _).mpr rfl, fun z => Bool.noConfusion (show false = true from z)⟩, h2, h3, h4⟩
end Tr
namespace Tr
open PySem PySem.Spec PyProof.Rows L2
theorem tabIn_mk {K : PySem.W.Frag} {x : Str} {f c Pt : Addr} {oc oc2 : Value} {od od2 : Option Addr} {fd : FuncData} {sl sl2 : Array (Option Value)} {vs : Array Value} (h1 : PySem.W.nsIn K mainGlobals x = some (some (.ref f))) (h2 : K.lookup f = some ⟨oc, od, .func fd, sl⟩) (h3 : fd.code = .ref c)
    (h4 : K.lookup c = some ⟨oc2, od2, .fields vs, sl2⟩) (h5 : vs[11]? = some (.ref Pt)) : PySem.W.tabIn K x = some (c, Pt) := by
  unfold PySem.W.tabIn
  rw [h1]
  dsimp only
  rw [h2]
  dsimp only
  rw [h3]
  dsimp only
  rw [h4]
  dsimp only
  rw [h5]
theorem ints_inj : ∀ {l m : List Int}, l.map PySem.W.WData.int = m.map PySem.W.WData.int → l = m
  | [], [], _ => rfl
  | [], _ :: _, h => by cases h
  | _ :: _, [], h => by cases h
  | x :: l, y :: m, h => by
    rw [List.map_cons, List.map_cons] at h
    have h1 := PySem.W.WData.int.inj (List.cons.inj h).1
    rw [h1, ints_inj (List.cons.inj h).2]
/-- the promise, by the tables of code objects -/
def spEnd (K : PySem.W.Frag) (cs : List (Addr × Addr)) : Sp := spAnswers K ((cs.map (·.2)).zip [lamName, lamName2])
def widths : List (Int × Int) := [(1, 3), (2, 7), (3, 1), (4, 1), (5, 2), (6, 1), (7, 1), (8, 1), (9, 1), (10, 0), (11, 0), (12, 1)]
theorem shape_widths (p : Int) (n : Nat) (h : PySq40.shape p = some (n, 0)) : (p, (n : Int)) ∈ widths := by
  unfold PySq40.shape at h
  repeat' split at h
  all_goals first
    | (subst_vars; cases h; decide)
    | cases h
theorem all_mk {P : Program} {w : World} {K : PySem.W.Frag} {h : Heap} {mg : Str → Option Value} {fa CS CT CH fSI fFa fTI fIO fOu fRW fAr fHF fLe fHI fSa fBe fSp fHM fBN fTi fID fJu fTk fKe fCT fSl fTR fIW fMo cMo PMo fFO fLE fHS fTS fCo fTrR fAlR fPaR fHuR fFaR fSP fLF cLF PLF fCB fTo fAT fAA fAn DW : Addr} (X : K.In h) (G : h.Ns mainGlobals mg) (hfa : mg "answers" = some (.ref fa))
    {ocSI kVSI dcSI pmSI ctSI cdSI : Value} {odSI anSI : Option Addr} {slSI : Array (Option Value)}
    {ocFa kVFa dcFa pmFa ctFa cdFa : Value} {odFa anFa : Option Addr} {slFa : Array (Option Value)}
    {ocTI kVTI dcTI pmTI ctTI cdTI : Value} {odTI anTI : Option Addr} {slTI : Array (Option Value)}
    {ocIO kVIO dcIO pmIO ctIO cdIO : Value} {odIO anIO : Option Addr} {slIO : Array (Option Value)}
    {ocOu kVOu dcOu pmOu ctOu cdOu : Value} {odOu anOu : Option Addr} {slOu : Array (Option Value)}
    {ocRW kVRW dcRW pmRW ctRW cdRW : Value} {odRW anRW : Option Addr} {slRW : Array (Option Value)}
    {ocAr kVAr dcAr pmAr ctAr cdAr : Value} {odAr anAr : Option Addr} {slAr : Array (Option Value)}
    {ocHF kVHF dcHF pmHF ctHF cdHF : Value} {odHF anHF : Option Addr} {slHF : Array (Option Value)}
    {ocLe kVLe dcLe pmLe ctLe cdLe : Value} {odLe anLe : Option Addr} {slLe : Array (Option Value)}
    {ocHI kVHI dcHI pmHI ctHI cdHI : Value} {odHI anHI : Option Addr} {slHI : Array (Option Value)}
    {ocSa kVSa dcSa pmSa ctSa cdSa : Value} {odSa anSa : Option Addr} {slSa : Array (Option Value)}
    {ocBe kVBe dcBe pmBe ctBe cdBe : Value} {odBe anBe : Option Addr} {slBe : Array (Option Value)}
    {ocSp kVSp dcSp pmSp ctSp cdSp : Value} {odSp anSp : Option Addr} {slSp : Array (Option Value)}
    {ocHM kVHM dcHM pmHM ctHM cdHM : Value} {odHM anHM : Option Addr} {slHM : Array (Option Value)}
    {ocBN kVBN dcBN pmBN ctBN cdBN : Value} {odBN anBN : Option Addr} {slBN : Array (Option Value)}
    {ocTi kVTi dcTi pmTi ctTi cdTi : Value} {odTi anTi : Option Addr} {slTi : Array (Option Value)}
    {ocID kVID dcID pmID ctID cdID : Value} {odID anID : Option Addr} {slID : Array (Option Value)}
    {ocJu kVJu dcJu pmJu ctJu cdJu : Value} {odJu anJu : Option Addr} {slJu : Array (Option Value)}
    {ocTk kVTk dcTk pmTk ctTk cdTk : Value} {odTk anTk : Option Addr} {slTk : Array (Option Value)}
    {ocKe kVKe dcKe pmKe ctKe cdKe : Value} {odKe anKe : Option Addr} {slKe : Array (Option Value)}
    {ocCT kVCT dcCT pmCT ctCT cdCT : Value} {odCT anCT : Option Addr} {slCT : Array (Option Value)}
    {ocSl kVSl dcSl pmSl ctSl cdSl : Value} {odSl anSl : Option Addr} {slSl : Array (Option Value)}
    {ocTR kVTR dcTR pmTR ctTR cdTR : Value} {odTR anTR : Option Addr} {slTR : Array (Option Value)}
    {ocIW kVIW dcIW pmIW ctIW cdIW : Value} {odIW anIW : Option Addr} {slIW : Array (Option Value)}
    {occMo : Value} {odcMo : Option Addr} {vsMo : Array Value} {slcMo : Array (Option Value)}
    {ocMo kVMo dcMo pmMo ctMo : Value} {odMo anMo : Option Addr} {slMo : Array (Option Value)}
    {ocFO kVFO dcFO pmFO ctFO cdFO : Value} {odFO anFO : Option Addr} {slFO : Array (Option Value)}
    {ocLE kVLE dcLE pmLE ctLE cdLE : Value} {odLE anLE : Option Addr} {slLE : Array (Option Value)}
    {ocHS kVHS dcHS pmHS ctHS cdHS : Value} {odHS anHS : Option Addr} {slHS : Array (Option Value)}
    {ocTS kVTS dcTS pmTS ctTS cdTS : Value} {odTS anTS : Option Addr} {slTS : Array (Option Value)}
    {ocCo kVCo dcCo pmCo ctCo cdCo : Value} {odCo anCo : Option Addr} {slCo : Array (Option Value)}
    {ocTrR kVTrR dcTrR pmTrR ctTrR cdTrR : Value} {odTrR anTrR : Option Addr} {slTrR : Array (Option Value)}
    {ocAlR kVAlR dcAlR pmAlR ctAlR cdAlR : Value} {odAlR anAlR : Option Addr} {slAlR : Array (Option Value)}
    {ocPaR kVPaR dcPaR pmPaR ctPaR cdPaR : Value} {odPaR anPaR : Option Addr} {slPaR : Array (Option Value)}
    {ocHuR kVHuR dcHuR pmHuR ctHuR cdHuR : Value} {odHuR anHuR : Option Addr} {slHuR : Array (Option Value)}
    {ocFaR kVFaR dcFaR pmFaR ctFaR cdFaR : Value} {odFaR anFaR : Option Addr} {slFaR : Array (Option Value)}
    {ocSP kVSP dcSP pmSP ctSP cdSP : Value} {odSP anSP : Option Addr} {slSP : Array (Option Value)}
    {occLF : Value} {odcLF : Option Addr} {vsLF : Array Value} {slcLF : Array (Option Value)}
    {ocLF kVLF dcLF pmLF ctLF : Value} {odLF anLF : Option Addr} {slLF : Array (Option Value)}
    {ocCB kVCB dcCB pmCB ctCB cdCB : Value} {odCB anCB : Option Addr} {slCB : Array (Option Value)}
    {ocTo kVTo dcTo pmTo ctTo cdTo : Value} {odTo anTo : Option Addr} {slTo : Array (Option Value)}
    {ocAT kVAT dcAT pmAT ctAT cdAT : Value} {odAT anAT : Option Addr} {slAT : Array (Option Value)}
    {ocAA kVAA dcAA pmAA ctAA cdAA : Value} {odAA anAA : Option Addr} {slAA : Array (Option Value)}
    {ocAn kVAn dcAn pmAn ctAn cdAn : Value} {odAn anAn : Option Addr} {slAn : Array (Option Value)}
    {tUNDECIDED : Tok}
    {tKEPT : Tok}
    {tDROPPED : Tok}
    {tNO_SPAN : Tok}
    {tNOT_WHOLE : Tok}
    {tHIGHEST : Tok}
    {tHIGHEST_SERVICE : Tok}
    {tHIGHEST_TIME : Tok}
    {tMOST_SPANS : Tok}
    {tCANNOT_BE : Tok}
    {tNO_TRACE : Tok}
    {tOTHER_SPAN : Tok}
    {tTOO_MANY_SPANS : Tok}
    {tBEGIN : Tok}
    {tSPAN : Tok}
    {tTICK : Tok}
    {tTREE : Tok}
    {tALONE : Tok}
    {tPATH : Tok}
    {tHUNG : Tok}
    {tFAULTS : Tok}
    {tALL_KEPT : Tok}
    {tCALLS_TOLD : Tok}
    {tSLOWEST : Tok}
    {esW : Array DictEntry} {enW : Nat}
    (gCS : PySem.W.nsIn K mainGlobals "Span" = some (some (.ref CS)))
    (pgS : PySem.W.plainGet K CS Str.empty = true)
    (hdS : PySem.W.hasDictIn K CS = true)
    (poS : PySem.W.plainOver K CS = true)
    (saS : PySem.W.findIn K (.ref CS) "__setattr__" = some (some (.builtin "object.__setattr__")))
    (mkS : PySem.W.makesIn K CS = true)
    (kcS : PySem.W.keepIn K (.ref CS) = true)
    (nS_number : PySem.W.findIn K (.ref CS) "number" = some none)
    (nS_within : PySem.W.findIn K (.ref CS) "within" = some none)
    (nS_service : PySem.W.findIn K (.ref CS) "service" = some none)
    (nS_begins : PySem.W.findIn K (.ref CS) "begins" = some none)
    (nS_ends : PySem.W.findIn K (.ref CS) "ends" = some none)
    (nS_failed : PySem.W.findIn K (.ref CS) "failed" = some none)
    (gCT : PySem.W.nsIn K mainGlobals "Trace" = some (some (.ref CT)))
    (pgT : PySem.W.plainGet K CT Str.empty = true)
    (hdT : PySem.W.hasDictIn K CT = true)
    (poT : PySem.W.plainOver K CT = true)
    (saT : PySem.W.findIn K (.ref CT) "__setattr__" = some (some (.builtin "object.__setattr__")))
    (mkT : PySem.W.makesIn K CT = true)
    (kcT : PySem.W.keepIn K (.ref CT) = true)
    (nT_number : PySem.W.findIn K (.ref CT) "number" = some none)
    (nT_spans : PySem.W.findIn K (.ref CT) "spans" = some none)
    (nT_heard : PySem.W.findIn K (.ref CT) "heard" = some none)
    (nT_verdict : PySem.W.findIn K (.ref CT) "verdict" = some none)
    (gCH : PySem.W.nsIn K mainGlobals "House" = some (some (.ref CH)))
    (pgH : PySem.W.plainGet K CH Str.empty = true)
    (hdH : PySem.W.hasDictIn K CH = true)
    (poH : PySem.W.plainOver K CH = true)
    (saH : PySem.W.findIn K (.ref CH) "__setattr__" = some (some (.builtin "object.__setattr__")))
    (mkH : PySem.W.makesIn K CH = true)
    (kcH : PySem.W.keepIn K (.ref CH) = true)
    (nH_quiet : PySem.W.findIn K (.ref CH) "quiet" = some none)
    (nH_slow : PySem.W.findIn K (.ref CH) "slow" = some none)
    (nH_each : PySem.W.findIn K (.ref CH) "each" = some none)
    (nH_now : PySem.W.findIn K (.ref CH) "now" = some none)
    (nH_traces : PySem.W.findIn K (.ref CH) "traces" = some none)
    (aSI : PySem.W.findIn K (.ref CS) "__init__" = some (some (.ref fSI)))
    (iSI : PySem.W.isFn K (.ref fSI) = true)
    (lSI : K.lookup fSI = some ⟨ocSI, odSI, .func (PySem.W.fnOf "__init__" "Span.__init__" (defArgs sSpanInit) (defBody sSpanInit) (defScope sSpanInit) .none kVSI dcSI pmSI anSI cdSI ctSI), slSI⟩)
    (eSI : PySem.W.codeIn K cdSI "Span.__init__" = true)
    (kSI : PySem.W.keepIn K (.ref fSI) = true)
    (aFa : PySem.W.findIn K (.ref CS) "facts" = some (some (.ref fFa)))
    (iFa : PySem.W.isFn K (.ref fFa) = true)
    (lFa : K.lookup fFa = some ⟨ocFa, odFa, .func (PySem.W.fnOf "facts" "Span.facts" (defArgs sFacts) (defBody sFacts) (defScope sFacts) .none kVFa dcFa pmFa anFa cdFa ctFa), slFa⟩)
    (eFa : PySem.W.codeIn K cdFa "Span.facts" = true)
    (kFa : PySem.W.keepIn K (.ref fFa) = true)
    (aTI : PySem.W.findIn K (.ref CT) "__init__" = some (some (.ref fTI)))
    (iTI : PySem.W.isFn K (.ref fTI) = true)
    (lTI : K.lookup fTI = some ⟨ocTI, odTI, .func (PySem.W.fnOf "__init__" "Trace.__init__" (defArgs sTraceInit) (defBody sTraceInit) (defScope sTraceInit) .none kVTI dcTI pmTI anTI cdTI ctTI), slTI⟩)
    (eTI : PySem.W.codeIn K cdTI "Trace.__init__" = true)
    (kTI : PySem.W.keepIn K (.ref fTI) = true)
    (aIO : PySem.W.findIn K (.ref CT) "in_order" = some (some (.ref fIO)))
    (iIO : PySem.W.isFn K (.ref fIO) = true)
    (lIO : K.lookup fIO = some ⟨ocIO, odIO, .func (PySem.W.fnOf "in_order" "Trace.in_order" (defArgs sInOrder) (defBody sInOrder) (defScope sInOrder) .none kVIO dcIO pmIO anIO cdIO ctIO), slIO⟩)
    (eIO : PySem.W.codeIn K cdIO "Trace.in_order" = true)
    (kIO : PySem.W.keepIn K (.ref fIO) = true)
    (aOu : PySem.W.findIn K (.ref CT) "outermost" = some (some (.ref fOu)))
    (iOu : PySem.W.isFn K (.ref fOu) = true)
    (lOu : K.lookup fOu = some ⟨ocOu, odOu, .func (PySem.W.fnOf "outermost" "Trace.outermost" (defArgs sOutermost) (defBody sOutermost) (defScope sOutermost) .none kVOu dcOu pmOu anOu cdOu ctOu), slOu⟩)
    (eOu : PySem.W.codeIn K cdOu "Trace.outermost" = true)
    (kOu : PySem.W.keepIn K (.ref fOu) = true)
    (aRW : PySem.W.findIn K (.ref CT) "right_within" = some (some (.ref fRW)))
    (iRW : PySem.W.isFn K (.ref fRW) = true)
    (lRW : K.lookup fRW = some ⟨ocRW, odRW, .func (PySem.W.fnOf "right_within" "Trace.right_within" (defArgs sRightWithin) (defBody sRightWithin) (defScope sRightWithin) .none kVRW dcRW pmRW anRW cdRW ctRW), slRW⟩)
    (eRW : PySem.W.codeIn K cdRW "Trace.right_within" = true)
    (kRW : PySem.W.keepIn K (.ref fRW) = true)
    (aAr : PySem.W.findIn K (.ref CT) "around" = some (some (.ref fAr)))
    (iAr : PySem.W.isFn K (.ref fAr) = true)
    (lAr : K.lookup fAr = some ⟨ocAr, odAr, .func (PySem.W.fnOf "around" "Trace.around" (defArgs sAround) (defBody sAround) (defScope sAround) .none kVAr dcAr pmAr anAr cdAr ctAr), slAr⟩)
    (eAr : PySem.W.codeIn K cdAr "Trace.around" = true)
    (kAr : PySem.W.keepIn K (.ref fAr) = true)
    (aHF : PySem.W.findIn K (.ref CT) "has_failure" = some (some (.ref fHF)))
    (iHF : PySem.W.isFn K (.ref fHF) = true)
    (lHF : K.lookup fHF = some ⟨ocHF, odHF, .func (PySem.W.fnOf "has_failure" "Trace.has_failure" (defArgs sHasFailure) (defBody sHasFailure) (defScope sHasFailure) .none kVHF dcHF pmHF anHF cdHF ctHF), slHF⟩)
    (eHF : PySem.W.codeIn K cdHF "Trace.has_failure" = true)
    (kHF : PySem.W.keepIn K (.ref fHF) = true)
    (aLe : PySem.W.findIn K (.ref CT) "length" = some (some (.ref fLe)))
    (iLe : PySem.W.isFn K (.ref fLe) = true)
    (lLe : K.lookup fLe = some ⟨ocLe, odLe, .func (PySem.W.fnOf "length" "Trace.length" (defArgs sLength) (defBody sLength) (defScope sLength) .none kVLe dcLe pmLe anLe cdLe ctLe), slLe⟩)
    (eLe : PySem.W.codeIn K cdLe "Trace.length" = true)
    (kLe : PySem.W.keepIn K (.ref fLe) = true)
    (aHI : PySem.W.findIn K (.ref CH) "__init__" = some (some (.ref fHI)))
    (iHI : PySem.W.isFn K (.ref fHI) = true)
    (lHI : K.lookup fHI = some ⟨ocHI, odHI, .func (PySem.W.fnOf "__init__" "House.__init__" (defArgs sHInit) (defBody sHInit) (defScope sHInit) .none kVHI dcHI pmHI anHI cdHI ctHI), slHI⟩)
    (eHI : PySem.W.codeIn K cdHI "House.__init__" = true)
    (kHI : PySem.W.keepIn K (.ref fHI) = true)
    (aSa : PySem.W.findIn K (.ref CH) "start_anew" = some (some (.ref fSa)))
    (iSa : PySem.W.isFn K (.ref fSa) = true)
    (lSa : K.lookup fSa = some ⟨ocSa, odSa, .func (PySem.W.fnOf "start_anew" "House.start_anew" (defArgs sStart) (defBody sStart) (defScope sStart) .none kVSa dcSa pmSa anSa cdSa ctSa), slSa⟩)
    (eSa : PySem.W.codeIn K cdSa "House.start_anew" = true)
    (kSa : PySem.W.keepIn K (.ref fSa) = true)
    (aBe : PySem.W.findIn K (.ref CH) "begin" = some (some (.ref fBe)))
    (iBe : PySem.W.isFn K (.ref fBe) = true)
    (lBe : K.lookup fBe = some ⟨ocBe, odBe, .func (PySem.W.fnOf "begin" "House.begin" (defArgs sBegin) (defBody sBegin) (defScope sBegin) .none kVBe dcBe pmBe anBe cdBe ctBe), slBe⟩)
    (eBe : PySem.W.codeIn K cdBe "House.begin" = true)
    (kBe : PySem.W.keepIn K (.ref fBe) = true)
    (aSp : PySem.W.findIn K (.ref CH) "span" = some (some (.ref fSp)))
    (iSp : PySem.W.isFn K (.ref fSp) = true)
    (lSp : K.lookup fSp = some ⟨ocSp, odSp, .func (PySem.W.fnOf "span" "House.span" (defArgs sSpan) (defBody sSpan) (defScope sSpan) .none kVSp dcSp pmSp anSp cdSp ctSp), slSp⟩)
    (eSp : PySem.W.codeIn K cdSp "House.span" = true)
    (kSp : PySem.W.keepIn K (.ref fSp) = true)
    (aHM : PySem.W.findIn K (.ref CH) "how_many_spans" = some (some (.ref fHM)))
    (iHM : PySem.W.isFn K (.ref fHM) = true)
    (lHM : K.lookup fHM = some ⟨ocHM, odHM, .func (PySem.W.fnOf "how_many_spans" "House.how_many_spans" (defArgs sHowMany) (defBody sHowMany) (defScope sHowMany) .none kVHM dcHM pmHM anHM cdHM ctHM), slHM⟩)
    (eHM : PySem.W.codeIn K cdHM "House.how_many_spans" = true)
    (kHM : PySem.W.keepIn K (.ref fHM) = true)
    (aBN : PySem.W.findIn K (.ref CH) "by_number" = some (some (.ref fBN)))
    (iBN : PySem.W.isFn K (.ref fBN) = true)
    (lBN : K.lookup fBN = some ⟨ocBN, odBN, .func (PySem.W.fnOf "by_number" "House.by_number" (defArgs sByNumber) (defBody sByNumber) (defScope sByNumber) .none kVBN dcBN pmBN anBN cdBN ctBN), slBN⟩)
    (eBN : PySem.W.codeIn K cdBN "House.by_number" = true)
    (kBN : PySem.W.keepIn K (.ref fBN) = true)
    (aTi : PySem.W.findIn K (.ref CH) "tick" = some (some (.ref fTi)))
    (iTi : PySem.W.isFn K (.ref fTi) = true)
    (lTi : K.lookup fTi = some ⟨ocTi, odTi, .func (PySem.W.fnOf "tick" "House.tick" (defArgs sTick) (defBody sTick) (defScope sTick) .none kVTi dcTi pmTi anTi cdTi ctTi), slTi⟩)
    (eTi : PySem.W.codeIn K cdTi "House.tick" = true)
    (kTi : PySem.W.keepIn K (.ref fTi) = true)
    (aID : PySem.W.findIn K (.ref CH) "is_due" = some (some (.ref fID)))
    (iID : PySem.W.isFn K (.ref fID) = true)
    (lID : K.lookup fID = some ⟨ocID, odID, .func (PySem.W.fnOf "is_due" "House.is_due" (defArgs sIsDue) (defBody sIsDue) (defScope sIsDue) .none kVID dcID pmID anID cdID ctID), slID⟩)
    (eID : PySem.W.codeIn K cdID "House.is_due" = true)
    (kID : PySem.W.keepIn K (.ref fID) = true)
    (aJu : PySem.W.findIn K (.ref CH) "judged" = some (some (.ref fJu)))
    (iJu : PySem.W.isFn K (.ref fJu) = true)
    (lJu : K.lookup fJu = some ⟨ocJu, odJu, .func (PySem.W.fnOf "judged" "House.judged" (defArgs sJudged) (defBody sJudged) (defScope sJudged) .none kVJu dcJu pmJu anJu cdJu ctJu), slJu⟩)
    (eJu : PySem.W.codeIn K cdJu "House.judged" = true)
    (kJu : PySem.W.keepIn K (.ref fJu) = true)
    (aTk : PySem.W.findIn K (.ref CH) "those_kept" = some (some (.ref fTk)))
    (iTk : PySem.W.isFn K (.ref fTk) = true)
    (lTk : K.lookup fTk = some ⟨ocTk, odTk, .func (PySem.W.fnOf "those_kept" "House.those_kept" (defArgs sThose) (defBody sThose) (defScope sThose) .none kVTk dcTk pmTk anTk cdTk ctTk), slTk⟩)
    (eTk : PySem.W.codeIn K cdTk "House.those_kept" = true)
    (kTk : PySem.W.keepIn K (.ref fTk) = true)
    (aKe : PySem.W.findIn K (.ref CH) "kept" = some (some (.ref fKe)))
    (iKe : PySem.W.isFn K (.ref fKe) = true)
    (lKe : K.lookup fKe = some ⟨ocKe, odKe, .func (PySem.W.fnOf "kept" "House.kept" (defArgs sKept) (defBody sKept) (defScope sKept) .none kVKe dcKe pmKe anKe cdKe ctKe), slKe⟩)
    (eKe : PySem.W.codeIn K cdKe "House.kept" = true)
    (kKe : PySem.W.keepIn K (.ref fKe) = true)
    (aCT : PySem.W.findIn K (.ref CH) "calls_told" = some (some (.ref fCT)))
    (iCT : PySem.W.isFn K (.ref fCT) = true)
    (lCT : K.lookup fCT = some ⟨ocCT, odCT, .func (PySem.W.fnOf "calls_told" "House.calls_told" (defArgs sCallsTold) (defBody sCallsTold) (defScope sCallsTold) .none kVCT dcCT pmCT anCT cdCT ctCT), slCT⟩)
    (eCT : PySem.W.codeIn K cdCT "House.calls_told" = true)
    (kCT : PySem.W.keepIn K (.ref fCT) = true)
    (aSl : PySem.W.findIn K (.ref CH) "slowest" = some (some (.ref fSl)))
    (iSl : PySem.W.isFn K (.ref fSl) = true)
    (lSl : K.lookup fSl = some ⟨ocSl, odSl, .func (PySem.W.fnOf "slowest" "House.slowest" (defArgs sSlowest) (defBody sSlowest) (defScope sSlowest) .none kVSl dcSl pmSl anSl cdSl ctSl), slSl⟩)
    (eSl : PySem.W.codeIn K cdSl "House.slowest" = true)
    (kSl : PySem.W.keepIn K (.ref fSl) = true)
    (aTR : PySem.W.nsIn K mainGlobals "tree_rows" = some (some (.ref fTR)))
    (lTR : K.lookup fTR = some ⟨ocTR, odTR, .func (PySem.W.fnOf "tree_rows" "tree_rows" (defArgs sTreeRows) (defBody sTreeRows) (defScope sTreeRows) .none kVTR dcTR pmTR anTR cdTR ctTR), slTR⟩)
    (eTR : PySem.W.codeIn K cdTR "tree_rows" = true)
    (kTR : PySem.W.keepIn K (.ref fTR) = true)
    (aIW : PySem.W.nsIn K mainGlobals "is_whole" = some (some (.ref fIW)))
    (lIW : K.lookup fIW = some ⟨ocIW, odIW, .func (PySem.W.fnOf "is_whole" "is_whole" (defArgs sIsWhole) (defBody sIsWhole) (defScope sIsWhole) .none kVIW dcIW pmIW anIW cdIW ctIW), slIW⟩)
    (eIW : PySem.W.codeIn K cdIW "is_whole" = true)
    (kIW : PySem.W.keepIn K (.ref fIW) = true)
    (aMo : PySem.W.nsIn K mainGlobals "moments_alone" = some (some (.ref fMo)))
    (lMo : K.lookup fMo = some ⟨ocMo, odMo, .func (PySem.W.fnOf "moments_alone" "moments_alone" (defArgs sMoments) (defBody sMoments) (defScope sMoments) .none kVMo dcMo pmMo anMo (.ref cMo) ctMo), slMo⟩)
    (eMo : PySem.W.codeIn K (.ref cMo) "moments_alone" = true)
    (kMo : PySem.W.keepIn K (.ref fMo) = true)
    (lcMo : K.lookup cMo = some ⟨occMo, odcMo, .fields vsMo, slcMo⟩)
    (vtMo : vsMo[11]? = some (.ref PMo))
    (ntMo : K.lookup PMo = none)
    (tbMo : ∀ c P : Addr, PySem.W.tabIn K "moments_alone" = some (c, P) → PySem.W.CodeHd h c P ∧ h.get? P = some (PySem.W.tabObj #[]))
    (aFO : PySem.W.nsIn K mainGlobals "faults_of" = some (some (.ref fFO)))
    (lFO : K.lookup fFO = some ⟨ocFO, odFO, .func (PySem.W.fnOf "faults_of" "faults_of" (defArgs sFaultsOf) (defBody sFaultsOf) (defScope sFaultsOf) .none kVFO dcFO pmFO anFO cdFO ctFO), slFO⟩)
    (eFO : PySem.W.codeIn K cdFO "faults_of" = true)
    (kFO : PySem.W.keepIn K (.ref fFO) = true)
    (aLE : PySem.W.nsIn K mainGlobals "last_to_end" = some (some (.ref fLE)))
    (lLE : K.lookup fLE = some ⟨ocLE, odLE, .func (PySem.W.fnOf "last_to_end" "last_to_end" (defArgs sLastToEnd) (defBody sLastToEnd) (defScope sLastToEnd) .none kVLE dcLE pmLE anLE cdLE ctLE), slLE⟩)
    (eLE : PySem.W.codeIn K cdLE "last_to_end" = true)
    (kLE : PySem.W.keepIn K (.ref fLE) = true)
    (aHS : PySem.W.nsIn K mainGlobals "hung_stretches" = some (some (.ref fHS)))
    (lHS : K.lookup fHS = some ⟨ocHS, odHS, .func (PySem.W.fnOf "hung_stretches" "hung_stretches" (defArgs sHung) (defBody sHung) (defScope sHung) .none kVHS dcHS pmHS anHS cdHS ctHS), slHS⟩)
    (eHS : PySem.W.codeIn K cdHS "hung_stretches" = true)
    (kHS : PySem.W.keepIn K (.ref fHS) = true)
    (aTS : PySem.W.nsIn K mainGlobals "time_by_service" = some (some (.ref fTS)))
    (lTS : K.lookup fTS = some ⟨ocTS, odTS, .func (PySem.W.fnOf "time_by_service" "time_by_service" (defArgs sTimes) (defBody sTimes) (defScope sTimes) .none kVTS dcTS pmTS anTS cdTS ctTS), slTS⟩)
    (eTS : PySem.W.codeIn K cdTS "time_by_service" = true)
    (kTS : PySem.W.keepIn K (.ref fTS) = true)
    (aCo : PySem.W.nsIn K mainGlobals "counted" = some (some (.ref fCo)))
    (lCo : K.lookup fCo = some ⟨ocCo, odCo, .func (PySem.W.fnOf "counted" "counted" (defArgs sCounted) (defBody sCounted) (defScope sCounted) .none kVCo dcCo pmCo anCo cdCo ctCo), slCo⟩)
    (eCo : PySem.W.codeIn K cdCo "counted" = true)
    (kCo : PySem.W.keepIn K (.ref fCo) = true)
    (aTrR : PySem.W.nsIn K mainGlobals "tree_reply" = some (some (.ref fTrR)))
    (lTrR : K.lookup fTrR = some ⟨ocTrR, odTrR, .func (PySem.W.fnOf "tree_reply" "tree_reply" (defArgs sTreeReply) (defBody sTreeReply) (defScope sTreeReply) .none kVTrR dcTrR pmTrR anTrR cdTrR ctTrR), slTrR⟩)
    (eTrR : PySem.W.codeIn K cdTrR "tree_reply" = true)
    (kTrR : PySem.W.keepIn K (.ref fTrR) = true)
    (aAlR : PySem.W.nsIn K mainGlobals "alone_reply" = some (some (.ref fAlR)))
    (lAlR : K.lookup fAlR = some ⟨ocAlR, odAlR, .func (PySem.W.fnOf "alone_reply" "alone_reply" (defArgs sAloneReply) (defBody sAloneReply) (defScope sAloneReply) .none kVAlR dcAlR pmAlR anAlR cdAlR ctAlR), slAlR⟩)
    (eAlR : PySem.W.codeIn K cdAlR "alone_reply" = true)
    (kAlR : PySem.W.keepIn K (.ref fAlR) = true)
    (aPaR : PySem.W.nsIn K mainGlobals "path_reply" = some (some (.ref fPaR)))
    (lPaR : K.lookup fPaR = some ⟨ocPaR, odPaR, .func (PySem.W.fnOf "path_reply" "path_reply" (defArgs sPathReply) (defBody sPathReply) (defScope sPathReply) .none kVPaR dcPaR pmPaR anPaR cdPaR ctPaR), slPaR⟩)
    (ePaR : PySem.W.codeIn K cdPaR "path_reply" = true)
    (kPaR : PySem.W.keepIn K (.ref fPaR) = true)
    (aHuR : PySem.W.nsIn K mainGlobals "hung_reply" = some (some (.ref fHuR)))
    (lHuR : K.lookup fHuR = some ⟨ocHuR, odHuR, .func (PySem.W.fnOf "hung_reply" "hung_reply" (defArgs sHungReply) (defBody sHungReply) (defScope sHungReply) .none kVHuR dcHuR pmHuR anHuR cdHuR ctHuR), slHuR⟩)
    (eHuR : PySem.W.codeIn K cdHuR "hung_reply" = true)
    (kHuR : PySem.W.keepIn K (.ref fHuR) = true)
    (aFaR : PySem.W.nsIn K mainGlobals "faults_reply" = some (some (.ref fFaR)))
    (lFaR : K.lookup fFaR = some ⟨ocFaR, odFaR, .func (PySem.W.fnOf "faults_reply" "faults_reply" (defArgs sFaultsReply) (defBody sFaultsReply) (defScope sFaultsReply) .none kVFaR dcFaR pmFaR anFaR cdFaR ctFaR), slFaR⟩)
    (eFaR : PySem.W.codeIn K cdFaR "faults_reply" = true)
    (kFaR : PySem.W.keepIn K (.ref fFaR) = true)
    (aSP : PySem.W.nsIn K mainGlobals "service_pairs" = some (some (.ref fSP)))
    (lSP : K.lookup fSP = some ⟨ocSP, odSP, .func (PySem.W.fnOf "service_pairs" "service_pairs" (defArgs sPairs) (defBody sPairs) (defScope sPairs) .none kVSP dcSP pmSP anSP cdSP ctSP), slSP⟩)
    (eSP : PySem.W.codeIn K cdSP "service_pairs" = true)
    (kSP : PySem.W.keepIn K (.ref fSP) = true)
    (aLF : PySem.W.nsIn K mainGlobals "longest_first" = some (some (.ref fLF)))
    (lLF : K.lookup fLF = some ⟨ocLF, odLF, .func (PySem.W.fnOf "longest_first" "longest_first" (defArgs sLongest) (defBody sLongest) (defScope sLongest) .none kVLF dcLF pmLF anLF (.ref cLF) ctLF), slLF⟩)
    (eLF : PySem.W.codeIn K (.ref cLF) "longest_first" = true)
    (kLF : PySem.W.keepIn K (.ref fLF) = true)
    (lcLF : K.lookup cLF = some ⟨occLF, odcLF, .fields vsLF, slcLF⟩)
    (vtLF : vsLF[11]? = some (.ref PLF))
    (ntLF : K.lookup PLF = none)
    (tbLF : ∀ c P : Addr, PySem.W.tabIn K "longest_first" = some (c, P) → PySem.W.CodeHd h c P ∧ h.get? P = some (PySem.W.tabObj #[]))
    (aCB : PySem.W.nsIn K mainGlobals "can_be" = some (some (.ref fCB)))
    (lCB : K.lookup fCB = some ⟨ocCB, odCB, .func (PySem.W.fnOf "can_be" "can_be" (defArgs sCanBe) (defBody sCanBe) (defScope sCanBe) .none kVCB dcCB pmCB anCB cdCB ctCB), slCB⟩)
    (eCB : PySem.W.codeIn K cdCB "can_be" = true)
    (kCB : PySem.W.keepIn K (.ref fCB) = true)
    (aTo : PySem.W.nsIn K mainGlobals "told_span" = some (some (.ref fTo)))
    (lTo : K.lookup fTo = some ⟨ocTo, odTo, .func (PySem.W.fnOf "told_span" "told_span" (defArgs sTold) (defBody sTold) (defScope sTold) .none kVTo dcTo pmTo anTo cdTo ctTo), slTo⟩)
    (eTo : PySem.W.codeIn K cdTo "told_span" = true)
    (kTo : PySem.W.keepIn K (.ref fTo) = true)
    (aAT : PySem.W.nsIn K mainGlobals "answer_to" = some (some (.ref fAT)))
    (lAT : K.lookup fAT = some ⟨ocAT, odAT, .func (PySem.W.fnOf "answer_to" "answer_to" (defArgs sAnswerTo) (defBody sAnswerTo) (defScope sAnswerTo) .none kVAT dcAT pmAT anAT cdAT ctAT), slAT⟩)
    (eAT : PySem.W.codeIn K cdAT "answer_to" = true)
    (kAT : PySem.W.keepIn K (.ref fAT) = true)
    (aAA : PySem.W.nsIn K mainGlobals "answer_about" = some (some (.ref fAA)))
    (lAA : K.lookup fAA = some ⟨ocAA, odAA, .func (PySem.W.fnOf "answer_about" "answer_about" (defArgs sAnswerAbout) (defBody sAnswerAbout) (defScope sAnswerAbout) .none kVAA dcAA pmAA anAA cdAA ctAA), slAA⟩)
    (eAA : PySem.W.codeIn K cdAA "answer_about" = true)
    (kAA : PySem.W.keepIn K (.ref fAA) = true)
    (aAn : PySem.W.nsIn K mainGlobals "answers" = some (some (.ref fAn)))
    (lAn : K.lookup fAn = some ⟨ocAn, odAn, .func (PySem.W.fnOf "answers" "answers" (defArgs sAnswers) (defBody sAnswers) (defScope sAnswers) .none kVAn dcAn pmAn anAn cdAn ctAn), slAn⟩)
    (eAn : PySem.W.codeIn K cdAn "answers" = true)
    (kAn : PySem.W.keepIn K (.ref fAn) = true)
    (pne : PMo ≠ PLF)
    (gUNDECIDED : PySem.W.nsIn K mainGlobals "UNDECIDED" = some (some (.int (0) tUNDECIDED)))
    (gKEPT : PySem.W.nsIn K mainGlobals "KEPT" = some (some (.int (1) tKEPT)))
    (gDROPPED : PySem.W.nsIn K mainGlobals "DROPPED" = some (some (.int (2) tDROPPED)))
    (gNO_SPAN : PySem.W.nsIn K mainGlobals "NO_SPAN" = some (some (.int (-3) tNO_SPAN)))
    (gNOT_WHOLE : PySem.W.nsIn K mainGlobals "NOT_WHOLE" = some (some (.int (-6) tNOT_WHOLE)))
    (gHIGHEST : PySem.W.nsIn K mainGlobals "HIGHEST" = some (some (.int (1000000) tHIGHEST)))
    (gHIGHEST_SERVICE : PySem.W.nsIn K mainGlobals "HIGHEST_SERVICE" = some (some (.int (15) tHIGHEST_SERVICE)))
    (gHIGHEST_TIME : PySem.W.nsIn K mainGlobals "HIGHEST_TIME" = some (some (.int (2000000) tHIGHEST_TIME)))
    (gMOST_SPANS : PySem.W.nsIn K mainGlobals "MOST_SPANS" = some (some (.int (60) tMOST_SPANS)))
    (gCANNOT_BE : PySem.W.nsIn K mainGlobals "CANNOT_BE" = some (some (.int (-1) tCANNOT_BE)))
    (gNO_TRACE : PySem.W.nsIn K mainGlobals "NO_TRACE" = some (some (.int (-2) tNO_TRACE)))
    (gOTHER_SPAN : PySem.W.nsIn K mainGlobals "OTHER_SPAN" = some (some (.int (-4) tOTHER_SPAN)))
    (gTOO_MANY_SPANS : PySem.W.nsIn K mainGlobals "TOO_MANY_SPANS" = some (some (.int (-5) tTOO_MANY_SPANS)))
    (gBEGIN : PySem.W.nsIn K mainGlobals "BEGIN" = some (some (.int (1) tBEGIN)))
    (gSPAN : PySem.W.nsIn K mainGlobals "SPAN" = some (some (.int (2) tSPAN)))
    (gTICK : PySem.W.nsIn K mainGlobals "TICK" = some (some (.int (3) tTICK)))
    (gTREE : PySem.W.nsIn K mainGlobals "TREE" = some (some (.int (4) tTREE)))
    (gALONE : PySem.W.nsIn K mainGlobals "ALONE" = some (some (.int (5) tALONE)))
    (gPATH : PySem.W.nsIn K mainGlobals "PATH" = some (some (.int (6) tPATH)))
    (gHUNG : PySem.W.nsIn K mainGlobals "HUNG" = some (some (.int (7) tHUNG)))
    (gFAULTS : PySem.W.nsIn K mainGlobals "FAULTS" = some (some (.int (8) tFAULTS)))
    (gALL_KEPT : PySem.W.nsIn K mainGlobals "ALL_KEPT" = some (some (.int (10) tALL_KEPT)))
    (gCALLS_TOLD : PySem.W.nsIn K mainGlobals "CALLS_TOLD" = some (some (.int (11) tCALLS_TOLD)))
    (gSLOWEST : PySem.W.nsIn K mainGlobals "SLOWEST" = some (some (.int (12) tSLOWEST)))
    (zsorted : PySem.W.nsIn K mainGlobals "sorted" = some none)
    (zany : PySem.W.nsIn K mainGlobals "any" = some none)
    (zmin : PySem.W.nsIn K mainGlobals "min" = some none)
    (zmax : PySem.W.nsIn K mainGlobals "max" = some none)
    (zlen : PySem.W.nsIn K mainGlobals "len" = some none)
    (zreversed : PySem.W.nsIn K mainGlobals "reversed" = some none)
    (zlist : PySem.W.nsIn K mainGlobals "list" = some none)
    (zsum : PySem.W.nsIn K mainGlobals "sum" = some none)
    (gW : PySem.W.nsIn K mainGlobals "WIDTHS" = some (some (.ref DW)))
    (lW : K.lookup DW = some ⟨.type "dict", none, .dict esW enW, #[]⟩)
    (eW : intEnts esW.toList = some [(1, 3), (2, 7), (3, 1), (4, 1), (5, 2), (6, 1), (7, 1), (8, 1), (9, 1), (10, 0), (11, 0), (12, 1)]) :
    ∃ (fd : FuncData) (cs : List (Addr × Addr)), (∀ p ∈ cs, h.get? p.2 = some { cls := .none, data := .fields #[] }) ∧ (∀ p ∈ cs, K.lookup p.2 = none) ∧ (∀ p ∈ cs, PySem.W.CodeHd h p.1 p.2) ∧ (∀ (s : Shared) (us : List Value), us.length = (["calls"] : List Str).length → BindsTo s fd ⟨us, []⟩ ((["calls"] : List Str).zip us)) ∧
      ∀ base : Heap, K.In base → base.Ns mainGlobals mg → (∀ p ∈ cs, LamX.TabB base mg p.1 p.2) → FnOk P w K mg base CX0 8 fa fd ["calls"] (spEnd K cs) := by
  have e := hfa.symm.trans (PySem.W.mg_of X G aAn)
  cases e
  have TS : TxtS K mg CS := ⟨⟨pgS, hdS, poS, saS⟩, nS_number, nS_within, nS_service, nS_begins, nS_ends, nS_failed⟩
  have TT : TxtT K mg CT := ⟨⟨pgT, hdT, poT, saT⟩, nT_number, nT_spans, nT_heard, nT_verdict, ⟨_, PySem.W.mg_of X G gUNDECIDED⟩, PySem.W.mg_none_of X G zsorted, PySem.W.mg_none_of X G zany, PySem.W.mg_none_of X G zmin, PySem.W.mg_none_of X G zmax⟩
  have TH : TxtH K mg CH := ⟨⟨pgH, hdH, poH, saH⟩, nH_quiet, nH_slow, nH_each, nH_now, nH_traces, ⟨_, PySem.W.mg_of X G gHIGHEST⟩, ⟨_, PySem.W.mg_of X G gHIGHEST_SERVICE⟩, ⟨_, PySem.W.mg_of X G gHIGHEST_TIME⟩, ⟨_, PySem.W.mg_of X G gMOST_SPANS⟩, ⟨_, PySem.W.mg_of X G gCANNOT_BE⟩, ⟨_, PySem.W.mg_of X G gNO_TRACE⟩, ⟨_, PySem.W.mg_of X G gNO_SPAN⟩, ⟨_, PySem.W.mg_of X G gOTHER_SPAN⟩, ⟨_, PySem.W.mg_of X G gTOO_MANY_SPANS⟩, ⟨_, PySem.W.mg_of X G gNOT_WHOLE⟩, ⟨_, PySem.W.mg_of X G gUNDECIDED⟩, ⟨_, PySem.W.mg_of X G gKEPT⟩, ⟨_, PySem.W.mg_of X G gDROPPED⟩⟩
  have N : TxtN mg := ⟨PySem.W.mg_none_of X G zlen, PySem.W.mg_none_of X G zreversed, PySem.W.mg_none_of X G zmax, PySem.W.mg_none_of X G zmin, PySem.W.mg_none_of X G zsorted, PySem.W.mg_none_of X G zlist⟩
  have TA : TxtA mg := ⟨⟨_, PySem.W.mg_of X G gBEGIN⟩, ⟨_, PySem.W.mg_of X G gSPAN⟩, ⟨_, PySem.W.mg_of X G gTICK⟩, ⟨_, PySem.W.mg_of X G gTREE⟩, ⟨_, PySem.W.mg_of X G gALONE⟩, ⟨_, PySem.W.mg_of X G gPATH⟩, ⟨_, PySem.W.mg_of X G gHUNG⟩, ⟨_, PySem.W.mg_of X G gFAULTS⟩, ⟨_, PySem.W.mg_of X G gALL_KEPT⟩, ⟨_, PySem.W.mg_of X G gCALLS_TOLD⟩, ⟨_, PySem.W.mg_of X G gSLOWEST⟩⟩
  have FSI := fun_mk (st := sSpanInit) lSI eSI kSI
  have bSI := FSI.binds (ps := ["self", "number", "within", "service", "begins", "ends", "failed"]) fun _ _ _ _ _ _ us hl => match us, hl with | [_, _, _, _, _, _, _], _ => rfl
  have mSI : Meth K CS "__init__" fSI := ⟨aSI, iSI, kSI⟩
  have FFa := fun_mk (st := sFacts) lFa eFa kFa
  have bFa := FFa.binds (ps := ["self"]) fun _ _ _ _ _ _ us hl => match us, hl with | [_], _ => rfl
  have mFa : Meth K CS "facts" fFa := ⟨aFa, iFa, kFa⟩
  have FTI := fun_mk (st := sTraceInit) lTI eTI kTI
  have bTI := FTI.binds (ps := ["self", "number"]) fun _ _ _ _ _ _ us hl => match us, hl with | [_, _], _ => rfl
  have mTI : Meth K CT "__init__" fTI := ⟨aTI, iTI, kTI⟩
  have FIO := fun_mk (st := sInOrder) lIO eIO kIO
  have bIO := FIO.binds (ps := ["self"]) fun _ _ _ _ _ _ us hl => match us, hl with | [_], _ => rfl
  have mIO : Meth K CT "in_order" fIO := ⟨aIO, iIO, kIO⟩
  have FOu := fun_mk (st := sOutermost) lOu eOu kOu
  have bOu := FOu.binds (ps := ["self"]) fun _ _ _ _ _ _ us hl => match us, hl with | [_], _ => rfl
  have mOu : Meth K CT "outermost" fOu := ⟨aOu, iOu, kOu⟩
  have FRW := fun_mk (st := sRightWithin) lRW eRW kRW
  have bRW := FRW.binds (ps := ["self", "number"]) fun _ _ _ _ _ _ us hl => match us, hl with | [_, _], _ => rfl
  have mRW : Meth K CT "right_within" fRW := ⟨aRW, iRW, kRW⟩
  have FAr := fun_mk (st := sAround) lAr eAr kAr
  have bAr := FAr.binds (ps := ["self", "span"]) fun _ _ _ _ _ _ us hl => match us, hl with | [_, _], _ => rfl
  have mAr : Meth K CT "around" fAr := ⟨aAr, iAr, kAr⟩
  have FHF := fun_mk (st := sHasFailure) lHF eHF kHF
  have bHF := FHF.binds (ps := ["self"]) fun _ _ _ _ _ _ us hl => match us, hl with | [_], _ => rfl
  have mHF : Meth K CT "has_failure" fHF := ⟨aHF, iHF, kHF⟩
  have FLe := fun_mk (st := sLength) lLe eLe kLe
  have bLe := FLe.binds (ps := ["self"]) fun _ _ _ _ _ _ us hl => match us, hl with | [_], _ => rfl
  have mLe : Meth K CT "length" fLe := ⟨aLe, iLe, kLe⟩
  have FHI := fun_mk (st := sHInit) lHI eHI kHI
  have bHI := FHI.binds (ps := ["self", "quiet", "slow", "each"]) fun _ _ _ _ _ _ us hl => match us, hl with | [_, _, _, _], _ => rfl
  have mHI : Meth K CH "__init__" fHI := ⟨aHI, iHI, kHI⟩
  have FSa := fun_mk (st := sStart) lSa eSa kSa
  have bSa := FSa.binds (ps := ["self", "quiet", "slow", "each"]) fun _ _ _ _ _ _ us hl => match us, hl with | [_, _, _, _], _ => rfl
  have mSa : Meth K CH "start_anew" fSa := ⟨aSa, iSa, kSa⟩
  have FBe := fun_mk (st := sBegin) lBe eBe kBe
  have bBe := FBe.binds (ps := ["self", "quiet", "slow", "each"]) fun _ _ _ _ _ _ us hl => match us, hl with | [_, _, _, _], _ => rfl
  have mBe : Meth K CH "begin" fBe := ⟨aBe, iBe, kBe⟩
  have FSp := fun_mk (st := sSpan) lSp eSp kSp
  have bSp := FSp.binds (ps := ["self", "trace_number", "span"]) fun _ _ _ _ _ _ us hl => match us, hl with | [_, _, _], _ => rfl
  have mSp : Meth K CH "span" fSp := ⟨aSp, iSp, kSp⟩
  have FHM := fun_mk (st := sHowMany) lHM eHM kHM
  have bHM := FHM.binds (ps := ["self"]) fun _ _ _ _ _ _ us hl => match us, hl with | [_], _ => rfl
  have mHM : Meth K CH "how_many_spans" fHM := ⟨aHM, iHM, kHM⟩
  have FBN := fun_mk (st := sByNumber) lBN eBN kBN
  have bBN := FBN.binds (ps := ["self"]) fun _ _ _ _ _ _ us hl => match us, hl with | [_], _ => rfl
  have mBN : Meth K CH "by_number" fBN := ⟨aBN, iBN, kBN⟩
  have FTi := fun_mk (st := sTick) lTi eTi kTi
  have bTi := FTi.binds (ps := ["self", "now"]) fun _ _ _ _ _ _ us hl => match us, hl with | [_, _], _ => rfl
  have mTi : Meth K CH "tick" fTi := ⟨aTi, iTi, kTi⟩
  have FID := fun_mk (st := sIsDue) lID eID kID
  have bID := FID.binds (ps := ["self", "trace"]) fun _ _ _ _ _ _ us hl => match us, hl with | [_, _], _ => rfl
  have mID : Meth K CH "is_due" fID := ⟨aID, iID, kID⟩
  have FJu := fun_mk (st := sJudged) lJu eJu kJu
  have bJu := FJu.binds (ps := ["self", "trace"]) fun _ _ _ _ _ _ us hl => match us, hl with | [_, _], _ => rfl
  have mJu : Meth K CH "judged" fJu := ⟨aJu, iJu, kJu⟩
  have FTk := fun_mk (st := sThose) lTk eTk kTk
  have bTk := FTk.binds (ps := ["self"]) fun _ _ _ _ _ _ us hl => match us, hl with | [_], _ => rfl
  have mTk : Meth K CH "those_kept" fTk := ⟨aTk, iTk, kTk⟩
  have FKe := fun_mk (st := sKept) lKe eKe kKe
  have bKe := FKe.binds (ps := ["self"]) fun _ _ _ _ _ _ us hl => match us, hl with | [_], _ => rfl
  have mKe : Meth K CH "kept" fKe := ⟨aKe, iKe, kKe⟩
  have FCT := fun_mk (st := sCallsTold) lCT eCT kCT
  have bCT := FCT.binds (ps := ["self"]) fun _ _ _ _ _ _ us hl => match us, hl with | [_], _ => rfl
  have mCT : Meth K CH "calls_told" fCT := ⟨aCT, iCT, kCT⟩
  have FSl := fun_mk (st := sSlowest) lSl eSl kSl
  have bSl := FSl.binds (ps := ["self", "how_many"]) fun _ _ _ _ _ _ us hl => match us, hl with | [_, _], _ => rfl
  have mSl : Meth K CH "slowest" fSl := ⟨aSl, iSl, kSl⟩
  have FTR := fun_mk (st := sTreeRows) lTR eTR kTR
  have bTR := FTR.binds (ps := ["trace"]) fun _ _ _ _ _ _ us hl => match us, hl with | [_], _ => rfl
  have qTR := PySem.W.mg_of X G aTR
  have FIW := fun_mk (st := sIsWhole) lIW eIW kIW
  have bIW := FIW.binds (ps := ["trace"]) fun _ _ _ _ _ _ us hl => match us, hl with | [_], _ => rfl
  have qIW := PySem.W.mg_of X G aIW
  have FMo := fun_mk (st := sMoments) lMo eMo kMo
  have bMo := FMo.binds (ps := ["trace", "span"]) fun _ _ _ _ _ _ us hl => match us, hl with | [_, _], _ => rfl
  have qMo := PySem.W.mg_of X G aMo
  have FFO := fun_mk (st := sFaultsOf) lFO eFO kFO
  have bFO := FFO.binds (ps := ["trace"]) fun _ _ _ _ _ _ us hl => match us, hl with | [_], _ => rfl
  have qFO := PySem.W.mg_of X G aFO
  have FLE := fun_mk (st := sLastToEnd) lLE eLE kLE
  have bLE := FLE.binds (ps := ["spans", "start", "end"]) fun _ _ _ _ _ _ us hl => match us, hl with | [_, _, _], _ => rfl
  have qLE := PySem.W.mg_of X G aLE
  have FHS := fun_mk (st := sHung) lHS eHS kHS
  have bHS := FHS.binds (ps := ["trace"]) fun _ _ _ _ _ _ us hl => match us, hl with | [_], _ => rfl
  have qHS := PySem.W.mg_of X G aHS
  have FTS := fun_mk (st := sTimes) lTS eTS kTS
  have bTS := FTS.binds (ps := ["trace"]) fun _ _ _ _ _ _ us hl => match us, hl with | [_], _ => rfl
  have qTS := PySem.W.mg_of X G aTS
  have FCo := fun_mk (st := sCounted) lCo eCo kCo
  have bCo := FCo.binds (ps := ["rows"]) fun _ _ _ _ _ _ us hl => match us, hl with | [_], _ => rfl
  have qCo := PySem.W.mg_of X G aCo
  have FTrR := fun_mk (st := sTreeReply) lTrR eTrR kTrR
  have bTrR := FTrR.binds (ps := ["trace"]) fun _ _ _ _ _ _ us hl => match us, hl with | [_], _ => rfl
  have qTrR := PySem.W.mg_of X G aTrR
  have FAlR := fun_mk (st := sAloneReply) lAlR eAlR kAlR
  have bAlR := FAlR.binds (ps := ["trace", "number"]) fun _ _ _ _ _ _ us hl => match us, hl with | [_, _], _ => rfl
  have qAlR := PySem.W.mg_of X G aAlR
  have FPaR := fun_mk (st := sPathReply) lPaR ePaR kPaR
  have bPaR := FPaR.binds (ps := ["trace"]) fun _ _ _ _ _ _ us hl => match us, hl with | [_], _ => rfl
  have qPaR := PySem.W.mg_of X G aPaR
  have FHuR := fun_mk (st := sHungReply) lHuR eHuR kHuR
  have bHuR := FHuR.binds (ps := ["trace"]) fun _ _ _ _ _ _ us hl => match us, hl with | [_], _ => rfl
  have qHuR := PySem.W.mg_of X G aHuR
  have FFaR := fun_mk (st := sFaultsReply) lFaR eFaR kFaR
  have bFaR := FFaR.binds (ps := ["trace"]) fun _ _ _ _ _ _ us hl => match us, hl with | [_], _ => rfl
  have qFaR := PySem.W.mg_of X G aFaR
  have FSP := fun_mk (st := sPairs) lSP eSP kSP
  have bSP := FSP.binds (ps := ["traces"]) fun _ _ _ _ _ _ us hl => match us, hl with | [_], _ => rfl
  have qSP := PySem.W.mg_of X G aSP
  have FLF := fun_mk (st := sLongest) lLF eLF kLF
  have bLF := FLF.binds (ps := ["traces"]) fun _ _ _ _ _ _ us hl => match us, hl with | [_], _ => rfl
  have qLF := PySem.W.mg_of X G aLF
  have FCB := fun_mk (st := sCanBe) lCB eCB kCB
  have bCB := FCB.binds (ps := ["trace_number", "span"]) fun _ _ _ _ _ _ us hl => match us, hl with | [_, _], _ => rfl
  have qCB := PySem.W.mg_of X G aCB
  have FTo := fun_mk (st := sTold) lTo eTo kTo
  have bTo := FTo.binds (ps := ["given"]) fun _ _ _ _ _ _ us hl => match us, hl with | [_], _ => rfl
  have qTo := PySem.W.mg_of X G aTo
  have FAT := fun_mk (st := sAnswerTo) lAT eAT kAT
  have bAT := FAT.binds (ps := ["house", "call", "given"]) fun _ _ _ _ _ _ us hl => match us, hl with | [_, _, _], _ => rfl
  have qAT := PySem.W.mg_of X G aAT
  have FAA := fun_mk (st := sAnswerAbout) lAA eAA kAA
  have bAA := FAA.binds (ps := ["trace", "call", "given"]) fun _ _ _ _ _ _ us hl => match us, hl with | [_, _, _], _ => rfl
  have qAA := PySem.W.mg_of X G aAA
  have FAn := fun_mk (st := sAnswers) lAn eAn kAn
  have bAn := FAn.binds (ps := ["calls"]) fun _ _ _ _ _ _ us hl => match us, hl with | [_], _ => rfl
  have qAn := PySem.W.mg_of X G aAn
  have MS : Mk K CS fSI := ⟨mkS, aSI, iSI, kcS⟩
  have MT : Mk K CT fTI := ⟨mkT, aTI, iTI, kcT⟩
  have MH : Mk K CH fHI := ⟨mkH, aHI, iHI, kcH⟩
  obtain ⟨hdMo', tbMo'⟩ := tbMo _ _ (tabIn_mk aMo lMo rfl lcMo vtMo)
  obtain ⟨hdLF', tbLF'⟩ := tbLF _ _ (tabIn_mk aLF lLF rfl lcLF vtLF)
  refine ⟨PySem.W.fnOf "answers" "answers" (defArgs sAnswers) (defBody sAnswers) (defScope sAnswers) .none kVAn dcAn pmAn anAn cdAn ctAn, [(cMo, PMo), (cLF, PLF)], fun p hp => ?_, fun p hp => ?_, fun p hp => ?_, fun s us hu => match us, hu with | [_], _ => .of_eq rfl, fun base KB NB TB => ?_⟩
  · rcases List.mem_cons.mp hp with rfl | hp
    · exact tbMo'
    · rw [List.mem_singleton.mp hp]
      exact tbLF'
  · rcases List.mem_cons.mp hp with rfl | hp
    · exact ntMo
    · rw [List.mem_singleton.mp hp]
      exact ntLF
  · rcases List.mem_cons.mp hp with rfl | hp
    · exact hdMo'
    · rw [List.mem_singleton.mp hp]
      exact hdLF'
  have TB1 := TB (cMo, PMo) List.mem_cons_self
  have TB2 := TB (cLF, PLF) (List.mem_cons_of_mem _ List.mem_cons_self)
  let C : Cl := ⟨CS, CT, CH⟩
  let T : List (Addr × Str) := [(PMo, lamName), (PLF, lamName2)]
  have hu1 : ∀ p ∈ T, p.1 = PMo → p.2 = lamName := fun p hp z => by
    rcases List.mem_cons.mp hp with rfl | hp
    · rfl
    · rw [List.mem_singleton.mp hp] at z
      exact absurd z.symm pne
  have hu2 : ∀ p ∈ T, p.1 = PLF → p.2 = lamName2 := fun p hp z => by
    rcases List.mem_cons.mp hp with rfl | hp
    · exact absurd z pne
    · rw [List.mem_singleton.mp hp]
  have GSI := ok_spanInit (P := P) (w := w) (base := base)  FSI TS
  have GFa := ok_facts (P := P) (w := w) (base := base) (C := C) FFa TS
  have GTI := ok_traceInit (P := P) (w := w) (base := base) (C := C) FTI TT
  have GIO := ok_inOrder (P := P) (w := w) (base := base) (CS := CS) (CT := CT) FIO TT
  have GOu := ok_outermost (P := P) (w := w) (base := base) (CS := CS) (CT := CT) FOu TS TT GIO mIO bIO
  have GRW := ok_rightWithin (P := P) (w := w) (base := base) (CS := CS) (CT := CT) FRW TS TT GIO mIO bIO
  have GAr := ok_around (P := P) (w := w) (base := base) (C := C) FAr TS TT
  have GHF := ok_hasFailure (P := P) (w := w) (base := base) (CS := CS) (CT := CT) FHF TS TT
  have GLe := ok_length (P := P) (w := w) (base := base) (CS := CS) (CT := CT) FLe TS TT
  have GTR := ok_treeRows (P := P) (w := w) (base := base) (CS := CS) (CT := CT) FTR TS TT N GOu mOu bOu GRW mRW bRW
  have GIW := ok_isWhole (P := P) (w := w) (base := base) (CS := CS) (CT := CT) FIW TS TT N GOu mOu bOu GTR qTR kTR bTR
  have GMo := ok_moments (P := P) (w := w) (base := base) (CS := CS) (CT := CT) (T := T) lMo eMo TB1 (List.mem_cons_self) hu1 TS TT N GRW mRW bRW
  have GFO := ok_faultsOf (P := P) (w := w) (base := base) (C := C) FFO TS TT GIO mIO bIO
  have GLE := ok_lastToEnd (P := P) (w := w) (base := base) (CS := CS) FLE TS
  have GHS := ok_hung (P := P) (w := w) (base := base) (CS := CS) (CT := CT) FHS TS TT N GOu mOu bOu GRW mRW bRW GLE qLE kLE bLE
  have GTS := ok_times (P := P) (w := w) (base := base) (C := C) FTS TS N GHS qHS kHS bHS
  have GCo := ok_counted (P := P) (w := w) (base := base)  FCo N
  have GTrR := ok_treeReply (P := P) (w := w) (base := base) (C := C) (T := T) FTrR TS GIW qIW kIW bIW GTR qTR kTR bTR
  have GAlR := ok_aloneReply (P := P) (w := w) (base := base) (C := C) (T := T) FAlR TT TH GMo qMo kMo bMo
  have GPaR := ok_pathReply (P := P) (w := w) (base := base) (C := C) (T := T) FPaR TS TH GIW qIW kIW bIW GHS qHS kHS bHS GCo qCo kCo bCo
  have GHuR := ok_hungReply (P := P) (w := w) (base := base) (C := C) (T := T) FHuR TH GIW qIW kIW bIW GTS qTS kTS bTS GCo qCo kCo bCo
  have GFaR := ok_faultsReply (P := P) (w := w) (base := base) (C := C) (T := T) FFaR TS GFO qFO kFO bFO GCo qCo kCo bCo
  have GSP := ok_pairs (P := P) (w := w) (base := base) (C := C) FSP TS TT N GIO mIO bIO GAr mAr bAr
  have GLF := ok_longest (P := P) (w := w) (base := base) (C := C) (T := T) lLF eLF TB2 (List.mem_cons_of_mem _ List.mem_cons_self) hu2 TT N GLe mLe bLe
  have GCB := ok_canBe (P := P) (w := w) (base := base) (C := C) FCB TS TH N
  have GSa := ok_start (P := P) (w := w) (base := base) (C := C) FSa TH
  have GHI := ok_hInit (P := P) (w := w) (base := base) (C := C) FHI TH GSa mSa bSa
  have GBe := ok_begin (P := P) (w := w) (base := base) (C := C) (T := T) FBe TH N GSa mSa bSa
  have GHM := ok_howMany (P := P) (w := w) (base := base) (C := C) FHM TT TH N (PySem.W.mg_none_of X G zsum)
  have GBN := ok_byNumber (P := P) (w := w) (base := base) (C := C) FBN TH N
  have GSp := ok_span (P := P) (w := w) (base := base) (C := C) (T := T) FSp TS TT TH N GCB qCB kCB bCB MT (PySem.W.mg_of X G gCT) GTI bTI GFa mFa bFa GHM mHM bHM
  have GID := ok_isDue (P := P) (w := w) (base := base) (C := C) FID TT TH
  have GJu := ok_judged (P := P) (w := w) (base := base) (C := C) FJu TT TH GHF mHF bHF GLe mLe bLe
  have GTi := ok_tick (P := P) (w := w) (base := base) (C := C) (T := T) FTi TT TH GID mID bID GJu mJu bJu GBN mBN bBN GCo qCo kCo bCo
  have GTk := ok_those (P := P) (w := w) (base := base) (C := C) FTk TT TH GBN mBN bBN
  have GKe := ok_kept (P := P) (w := w) (base := base) (C := C) (T := T) FKe TT TH GTk mTk bTk GCo qCo kCo bCo
  have GCT := ok_callsTold (P := P) (w := w) (base := base) (C := C) (T := T) FCT TH GTk mTk bTk GSP qSP kSP bSP GCo qCo kCo bCo
  have GSl := ok_slowest (P := P) (w := w) (base := base) (C := C) (T := T) FSl TT TH GTk mTk bTk GLF qLF kLF bLF GLe mLe bLe GCo qCo kCo bCo
  have GTo := ok_told (P := P) (w := w) (base := base) (C := C) FTo MS (PySem.W.mg_of X G gCS) GSI bSI
  have GAA := ok_answerAbout (P := P) (w := w) (base := base) (C := C) (T := T) FAA TT TA GTrR qTrR kTrR bTrR GAlR qAlR kAlR bAlR GPaR qPaR kPaR bPaR GHuR qHuR kHuR bHuR GFaR qFaR kFaR bFaR
  have GAT := ok_answerTo (P := P) (w := w) (base := base) (C := C) (T := T) FAT TH TA GBe mBe bBe GSp mSp bSp GTi mTi bTi GKe mKe bKe GCT mCT bCT GSl mSl bSl GTo qTo kTo bTo GAA qAA kAA bAA
  exact ok_answers (P := P) (w := w) (base := base) (C := C) (T := T) (wds := widths) FAn N MH (PySem.W.mg_of X G gCH) GHI bHI (PySem.W.mg_of X G gW) ⟨esW, enW, lW, eW, by decide⟩ shape_widths GAT qAT kAT bAT
end Tr
open PySem PySem.W PyProof.Rows
set_option maxRecDepth 100000 in
set_option maxHeartbeats 0 in
theorem PySem.Challenge.cw_tracehouse_s01_answers_holds : PySem.Challenge.rw_tracehouse_s01_answers.Holds := by
  w_on; k_headS; (case hw => exact ⟨[.list [.int 10]], by decide +kernel, by decide +kernel⟩)
  k_fillS
  refine Tr.walk_specT (r := PySem.Challenge.rw_tracehouse_s01_answers) (k := 8) (CX := L2.CX0) (x := "calls") (sp := Tr.spEnd) (by decide +kernel) rfl ⟨rfl, by decide, by decide⟩ (fun w h Y => PySem.W.kIn_of Y) ?F ?O ?S (fun _ _ _ _ z => z)
  case F =>
    intro w s0 mg mb fa h G Y KX hmg
    refine' Tr.all_mk KX G.T.g hmg ?gCS ?pgS ?hdS ?poS ?saS ?mkS ?kcS ?nS_number ?nS_within ?nS_service ?nS_begins ?nS_ends ?nS_failed ?gCT ?pgT ?hdT ?poT ?saT ?mkT ?kcT ?nT_number ?nT_spans ?nT_heard ?nT_verdict ?gCH ?pgH ?hdH ?poH ?saH ?mkH ?kcH ?nH_quiet ?nH_slow ?nH_each ?nH_now ?nH_traces ?aSI ?iSI ?lSI ?eSI ?kSI ?aFa ?iFa ?lFa ?eFa ?kFa ?aTI ?iTI ?lTI ?eTI ?kTI ?aIO ?iIO ?lIO ?eIO ?kIO ?aOu ?iOu ?lOu ?eOu ?kOu ?aRW ?iRW ?lRW ?eRW ?kRW ?aAr ?iAr ?lAr ?eAr ?kAr ?aHF ?iHF ?lHF ?eHF ?kHF ?aLe ?iLe ?lLe ?eLe ?kLe ?aHI ?iHI ?lHI ?eHI ?kHI ?aSa ?iSa ?lSa ?eSa ?kSa ?aBe ?iBe ?lBe ?eBe ?kBe ?aSp ?iSp ?lSp ?eSp ?kSp ?aHM ?iHM ?lHM ?eHM ?kHM ?aBN ?iBN ?lBN ?eBN ?kBN ?aTi ?iTi ?lTi ?eTi ?kTi ?aID ?iID ?lID ?eID ?kID ?aJu ?iJu ?lJu ?eJu ?kJu ?aTk ?iTk ?lTk ?eTk ?kTk ?aKe ?iKe ?lKe ?eKe ?kKe ?aCT ?iCT ?lCT ?eCT ?kCT ?aSl ?iSl ?lSl ?eSl ?kSl ?aTR ?lTR ?eTR ?kTR ?aIW ?lIW ?eIW ?kIW ?aMo ?lMo ?eMo ?kMo ?lcMo ?vtMo ?ntMo ?tbMo ?aFO ?lFO ?eFO ?kFO ?aLE ?lLE ?eLE ?kLE ?aHS ?lHS ?eHS ?kHS ?aTS ?lTS ?eTS ?kTS ?aCo ?lCo ?eCo ?kCo ?aTrR ?lTrR ?eTrR ?kTrR ?aAlR ?lAlR ?eAlR ?kAlR ?aPaR ?lPaR ?ePaR ?kPaR ?aHuR ?lHuR ?eHuR ?kHuR ?aFaR ?lFaR ?eFaR ?kFaR ?aSP ?lSP ?eSP ?kSP ?aLF ?lLF ?eLF ?kLF ?lcLF ?vtLF ?ntLF ?tbLF ?aCB ?lCB ?eCB ?kCB ?aTo ?lTo ?eTo ?kTo ?aAT ?lAT ?eAT ?kAT ?aAA ?lAA ?eAA ?kAA ?aAn ?lAn ?eAn ?kAn ?pne ?gUNDECIDED ?gKEPT ?gDROPPED ?gNO_SPAN ?gNOT_WHOLE ?gHIGHEST ?gHIGHEST_SERVICE ?gHIGHEST_TIME ?gMOST_SPANS ?gCANNOT_BE ?gNO_TRACE ?gOTHER_SPAN ?gTOO_MANY_SPANS ?gBEGIN ?gSPAN ?gTICK ?gTREE ?gALONE ?gPATH ?gHUNG ?gFAULTS ?gALL_KEPT ?gCALLS_TOLD ?gSLOWEST ?zsorted ?zany ?zmin ?zmax ?zlen ?zreversed ?zlist ?zsum ?gW ?lW ?eW
    (case gCS => k_is)
    (case pgS => k_is)
    (case hdS => k_is)
    (case poS => k_is)
    (case saS => k_is)
    (case mkS => k_is)
    (case kcS => k_is)
    (case nS_number => k_is)
    (case nS_within => k_is)
    (case nS_service => k_is)
    (case nS_begins => k_is)
    (case nS_ends => k_is)
    (case nS_failed => k_is)
    (case gCT => k_is)
    (case pgT => k_is)
    (case hdT => k_is)
    (case poT => k_is)
    (case saT => k_is)
    (case mkT => k_is)
    (case kcT => k_is)
    (case nT_number => k_is)
    (case nT_spans => k_is)
    (case nT_heard => k_is)
    (case nT_verdict => k_is)
    (case gCH => k_is)
    (case pgH => k_is)
    (case hdH => k_is)
    (case poH => k_is)
    (case saH => k_is)
    (case mkH => k_is)
    (case kcH => k_is)
    (case nH_quiet => k_is)
    (case nH_slow => k_is)
    (case nH_each => k_is)
    (case nH_now => k_is)
    (case nH_traces => k_is)
    (case aSI => k_is)
    (case iSI => k_is)
    (case lSI => k_is)
    (case eSI => k_is)
    (case kSI => k_is)
    (case aFa => k_is)
    (case iFa => k_is)
    (case lFa => k_is)
    (case eFa => k_is)
    (case kFa => k_is)
    (case aTI => k_is)
    (case iTI => k_is)
    (case lTI => k_is)
    (case eTI => k_is)
    (case kTI => k_is)
    (case aIO => k_is)
    (case iIO => k_is)
    (case lIO => k_is)
    (case eIO => k_is)
    (case kIO => k_is)
    (case aOu => k_is)
    (case iOu => k_is)
    (case lOu => k_is)
    (case eOu => k_is)
    (case kOu => k_is)
    (case aRW => k_is)
    (case iRW => k_is)
    (case lRW => k_is)
    (case eRW => k_is)
    (case kRW => k_is)
    (case aAr => k_is)
    (case iAr => k_is)
    (case lAr => k_is)
    (case eAr => k_is)
    (case kAr => k_is)
    (case aHF => k_is)
    (case iHF => k_is)
    (case lHF => k_is)
    (case eHF => k_is)
    (case kHF => k_is)
    (case aLe => k_is)
    (case iLe => k_is)
    (case lLe => k_is)
    (case eLe => k_is)
    (case kLe => k_is)
    (case aHI => k_is)
    (case iHI => k_is)
    (case lHI => k_is)
    (case eHI => k_is)
    (case kHI => k_is)
    (case aSa => k_is)
    (case iSa => k_is)
    (case lSa => k_is)
    (case eSa => k_is)
    (case kSa => k_is)
    (case aBe => k_is)
    (case iBe => k_is)
    (case lBe => k_is)
    (case eBe => k_is)
    (case kBe => k_is)
    (case aSp => k_is)
    (case iSp => k_is)
    (case lSp => k_is)
    (case eSp => k_is)
    (case kSp => k_is)
    (case aHM => k_is)
    (case iHM => k_is)
    (case lHM => k_is)
    (case eHM => k_is)
    (case kHM => k_is)
    (case aBN => k_is)
    (case iBN => k_is)
    (case lBN => k_is)
    (case eBN => k_is)
    (case kBN => k_is)
    (case aTi => k_is)
    (case iTi => k_is)
    (case lTi => k_is)
    (case eTi => k_is)
    (case kTi => k_is)
    (case aID => k_is)
    (case iID => k_is)
    (case lID => k_is)
    (case eID => k_is)
    (case kID => k_is)
    (case aJu => k_is)
    (case iJu => k_is)
    (case lJu => k_is)
    (case eJu => k_is)
    (case kJu => k_is)
    (case aTk => k_is)
    (case iTk => k_is)
    (case lTk => k_is)
    (case eTk => k_is)
    (case kTk => k_is)
    (case aKe => k_is)
    (case iKe => k_is)
    (case lKe => k_is)
    (case eKe => k_is)
    (case kKe => k_is)
    (case aCT => k_is)
    (case iCT => k_is)
    (case lCT => k_is)
    (case eCT => k_is)
    (case kCT => k_is)
    (case aSl => k_is)
    (case iSl => k_is)
    (case lSl => k_is)
    (case eSl => k_is)
    (case kSl => k_is)
    (case aTR => k_is)
    (case lTR => k_is)
    (case eTR => k_is)
    (case kTR => k_is)
    (case aIW => k_is)
    (case lIW => k_is)
    (case eIW => k_is)
    (case kIW => k_is)
    (case aMo => k_is)
    (case lMo => k_is)
    (case eMo => k_is)
    (case kMo => k_is)
    (case lcMo => k_is)
    (case vtMo => first | rfl | k_is)
    (case ntMo => first | rfl | k_is)
    (case tbMo => exact fun c P ht => PySem.W.tab_of G.T KX (x := "moments_alone") (by first | rfl | decide +kernel) ht)
    (case aFO => k_is)
    (case lFO => k_is)
    (case eFO => k_is)
    (case kFO => k_is)
    (case aLE => k_is)
    (case lLE => k_is)
    (case eLE => k_is)
    (case kLE => k_is)
    (case aHS => k_is)
    (case lHS => k_is)
    (case eHS => k_is)
    (case kHS => k_is)
    (case aTS => k_is)
    (case lTS => k_is)
    (case eTS => k_is)
    (case kTS => k_is)
    (case aCo => k_is)
    (case lCo => k_is)
    (case eCo => k_is)
    (case kCo => k_is)
    (case aTrR => k_is)
    (case lTrR => k_is)
    (case eTrR => k_is)
    (case kTrR => k_is)
    (case aAlR => k_is)
    (case lAlR => k_is)
    (case eAlR => k_is)
    (case kAlR => k_is)
    (case aPaR => k_is)
    (case lPaR => k_is)
    (case ePaR => k_is)
    (case kPaR => k_is)
    (case aHuR => k_is)
    (case lHuR => k_is)
    (case eHuR => k_is)
    (case kHuR => k_is)
    (case aFaR => k_is)
    (case lFaR => k_is)
    (case eFaR => k_is)
    (case kFaR => k_is)
    (case aSP => k_is)
    (case lSP => k_is)
    (case eSP => k_is)
    (case kSP => k_is)
    (case aLF => k_is)
    (case lLF => k_is)
    (case eLF => k_is)
    (case kLF => k_is)
    (case lcLF => k_is)
    (case vtLF => first | rfl | k_is)
    (case ntLF => first | rfl | k_is)
    (case tbLF => exact fun c P ht => PySem.W.tab_of G.T KX (x := "longest_first") (by first | rfl | decide +kernel) ht)
    (case aCB => k_is)
    (case lCB => k_is)
    (case eCB => k_is)
    (case kCB => k_is)
    (case aTo => k_is)
    (case lTo => k_is)
    (case eTo => k_is)
    (case kTo => k_is)
    (case aAT => k_is)
    (case lAT => k_is)
    (case eAT => k_is)
    (case kAT => k_is)
    (case aAA => k_is)
    (case lAA => k_is)
    (case eAA => k_is)
    (case kAA => k_is)
    (case aAn => k_is)
    (case lAn => k_is)
    (case eAn => k_is)
    (case kAn => k_is)
    (case pne => decide)
    (case gUNDECIDED => k_is)
    (case gKEPT => k_is)
    (case gDROPPED => k_is)
    (case gNO_SPAN => k_is)
    (case gNOT_WHOLE => k_is)
    (case gHIGHEST => k_is)
    (case gHIGHEST_SERVICE => k_is)
    (case gHIGHEST_TIME => k_is)
    (case gMOST_SPANS => k_is)
    (case gCANNOT_BE => k_is)
    (case gNO_TRACE => k_is)
    (case gOTHER_SPAN => k_is)
    (case gTOO_MANY_SPANS => k_is)
    (case gBEGIN => k_is)
    (case gSPAN => k_is)
    (case gTICK => k_is)
    (case gTREE => k_is)
    (case gALONE => k_is)
    (case gPATH => k_is)
    (case gHUNG => k_is)
    (case gFAULTS => k_is)
    (case gALL_KEPT => k_is)
    (case gCALLS_TOLD => k_is)
    (case gSLOWEST => k_is)
    (case zsorted => k_is)
    (case zany => k_is)
    (case zmin => k_is)
    (case zmax => k_is)
    (case zlen => k_is)
    (case zreversed => k_is)
    (case zlist => k_is)
    (case zsum => k_is)
    (case gW => k_is)
    (case lW => k_is)
    (case eW => first | rfl | decide +kernel)
  case O =>
    intro a hwi
    have q : ((Codec.inLen 0 1600 a.1 && a.1.all (Codec.inInt 0 18446744073709551615)) && true) = true := hwi
    rw [Bool.and_eq_true, Bool.and_eq_true] at q
    exact ⟨a.1, rfl, Nat.le_trans (Codec.inNat_iff.mp q.1.1).2 (by decide)⟩
  case S =>
    intro K cs H ad ns a hwi hask henc hT hS
    have q : ((Codec.inLen 0 1600 a.1 && a.1.all (Codec.inInt 0 18446744073709551615)) && true) = true := hwi
    rw [Bool.and_eq_true, Bool.and_eq_true] at q
    have e1 : WData.list (a.1.map WData.int) = WData.list (ns.map WData.int) := (List.cons.inj (show [WData.list (a.1.map WData.int)] = _ from henc)).1
    have e2 : a.1 = ns := Tr.ints_inj (WData.list.inj e1)
    subst e2
    refine ⟨ad, a.1, rfl, hS, fun x hx => ?_, hask, fun p hp => ?_, fun H' p hp => .lst (L2.SqL.of hp) (L2.dw_ints _)⟩
    · exact (Codec.inInt_iff.mp (List.all_eq_true.mp q.1.2 x hx)).1
    · obtain ⟨c, hc, e⟩ := List.mem_map.mp (List.of_mem_zip (a := p.1) (b := p.2) hp).1
      exact LamX.TabS.nil (by rw [← e]; exact hT c hc)
#print axioms PySem.Challenge.cw_tracehouse_s01_answers_holds
