import PyProof.Rows.All
import Wide.All
import OpenK.AllK
import Wide.FinOn
import Open.SpecLaws
import KE.OsGo
import HandS.ForSpec
import HandS.ForMost
import HandS.Wide
import HandS.TupSets
import HandS.TupLen
import HandS.Conv
import HandS.DictTup
import HandS.NamedTupSort
import PyProof.Rows.TupDisplay
import PyProof.SumWalkG
import HandS.TupAny
import HandS.TupMul
import HandS.Walk
import PyProof.NoPylong
import PySem.Challenge.RW_leftalone_s01_answers
set_option Elab.async false
set_option linter.all false
set_option exponentiation.threshold 300
namespace LA
open Wp04
/-- a row as a function of the place -/
def fn (a : List Rat) : Nat → Rat := fun i => a.getD i 0
theorem fn_plus : ∀ (a b : List Rat), a.length = b.length → ∀ i, fn (plus a b) i = fn a i + fn b i
  | [], [], _, i => by simp [fn, plus, Rat.add_zero]
  | [], b :: bs, h, _ => by simp at h
  | a :: as, [], h, _ => by simp at h
  | a :: as, b :: bs, h, 0 => by simp [fn, plus]
  | a :: as, b :: bs, h, i + 1 => by
    have ih := fn_plus as bs (by simpa using h) i
    simpa [fn, plus] using ih
theorem len_plus (a b : List Rat) (h : a.length = b.length) : (plus a b).length = a.length := by
  simp [plus, h]
theorem fn_scale : ∀ (r : Rat) (a : List Rat) (i : Nat), fn (scale r a) i = r * fn a i
  | r, [], i => by simp [fn, scale, Rat.mul_zero]
  | r, a :: as, 0 => by simp [fn, scale]
  | r, a :: as, i + 1 => by simpa [fn, scale] using fn_scale r as i
theorem len_scale (r : Rat) (a : List Rat) : (scale r a).length = a.length := by simp [scale]
theorem fn_ext : ∀ {a b : List Rat}, a.length = b.length → (∀ i, fn a i = fn b i) → a = b := by
  intro a b h e
  apply List.ext_getElem h
  intro i h1 h2
  have := e i
  simpa [fn, List.getD_eq_getElem?_getD, List.getElem?_eq_getElem h1, List.getElem?_eq_getElem h2] using this
theorem fn_ge {a : List Rat} {i : Nat} (h : a.length ≤ i) : fn a i = 0 := by
  simp [fn, List.getD_eq_getElem?_getD, List.getElem?_eq_none h]
/-- what some rows make -/
inductive Sp (l : List (List Rat)) : (Nat → Rat) → Prop
  | zero : Sp l (fun _ => 0)
  | step (r : Rat) {v : Nat → Rat} {b : List Rat} : Sp l v → b ∈ l → Sp l (fun i => v i + r * fn b i)
theorem Sp.eq {l : List (List Rat)} {v w : Nat → Rat} (h : Sp l v) (e : ∀ i, v i = w i) : Sp l w := by
  have : v = w := funext e
  exact this ▸ h
theorem Sp.mem {l : List (List Rat)} {b : List Rat} (h : b ∈ l) : Sp l (fn b) :=
  (Sp.step 1 Sp.zero h).eq fun i => by grind
theorem Sp.add {l : List (List Rat)} {v w : Nat → Rat} (hv : Sp l v) (hw : Sp l w) : Sp l (fun i => v i + w i) := by
  induction hw with
  | zero => exact hv.eq fun i => by grind
  | step r _ hb ih => exact (Sp.step r ih hb).eq fun i => by grind
theorem Sp.mul {l : List (List Rat)} {v : Nat → Rat} (r : Rat) (hv : Sp l v) : Sp l (fun i => r * v i) := by
  induction hv with
  | zero => exact Sp.zero.eq fun i => by grind
  | step q _ hb ih => exact (Sp.step (r * q) ih hb).eq fun i => by grind
theorem Sp.trans {l k : List (List Rat)} (h : ∀ b ∈ l, Sp k (fn b)) {v : Nat → Rat} (hv : Sp l v) : Sp k v := by
  induction hv with
  | zero => exact Sp.zero
  | step r _ hb ih => exact ih.add ((h _ hb).mul r)
theorem Sp.mono {l k : List (List Rat)} (h : ∀ b ∈ l, b ∈ k) {v : Nat → Rat} (hv : Sp l v) : Sp k v :=
  Sp.trans (fun _ hb => Sp.mem (h _ hb)) hv
/-! first places -/
theorem fn_first_lt {b : List Rat} {k : Nat} (h : k < first b) : fn b k = 0 := by
  unfold first at h
  by_cases hl : k < b.length
  · have := List.not_of_lt_findIdx h
    simp at this
    simpa [fn, List.getD_eq_getElem?_getD, List.getElem?_eq_getElem hl] using this
  · exact fn_ge (by omega)
theorem first_le {b : List Rat} {k : Nat} (h : fn b k ≠ 0) : first b ≤ k := by
  rcases Nat.lt_or_ge k (first b) with h1 | h1
  · exact absurd (fn_first_lt h1) h
  · exact h1
theorem first_ne {b : List Rat} {k : Nat} (h : fn b k ≠ 0) : fn b (first b) ≠ 0 := by
  have hl : k < b.length := by
    rcases Nat.lt_or_ge k b.length with h1 | h1
    · exact h1
    · exact absurd (fn_ge h1) h
  have hx : first b < b.length := Nat.lt_of_le_of_lt (first_le h) hl
  have := List.findIdx_getElem (p := fun (x : Rat) => decide (x ≠ 0)) (xs := b) (w := hx)
  simp only [decide_eq_true_eq] at this
  have e : fn b (first b) = b[first b] := by simp [fn, List.getD_eq_getElem?_getD, List.getElem?_eq_getElem hx]
  rw [e]
  exact this
theorem first_eq {b : List Rat} {k : Nat} (h : fn b k ≠ 0) (h0 : ∀ i < k, fn b i = 0) : first b = k := by
  have h1 := first_le h
  rcases Nat.lt_or_ge (first b) k with h2 | h2
  · exact absurd (h0 _ h2) (first_ne h)
  · omega
/-- 1 at its own first place, 0 at the others' -/
structure Red (l : List (List Rat)) : Prop where
  one : ∀ b ∈ l, fn b (first b) = 1
  off : l.Pairwise fun a b => fn a (first b) = 0 ∧ fn b (first a) = 0
def sm (l : List Rat) : Rat := l.sum
theorem sm_add {α : Type} (l : List α) (f g : α → Rat) : (l.map fun x => f x + g x).sum = (l.map f).sum + (l.map g).sum := by
  induction l with
  | nil => simp; grind
  | cons a l ih => simp only [List.map_cons, List.sum_cons, ih]; grind
theorem sm_mul {α : Type} (l : List α) (r : Rat) (f : α → Rat) : (l.map fun x => r * f x).sum = r * (l.map f).sum := by
  induction l with
  | nil => simp [Rat.mul_zero]
  | cons a l ih => simp only [List.map_cons, List.sum_cons, ih]; grind
theorem sm_zero {α : Type} (l : List α) (f : α → Rat) (h : ∀ x ∈ l, f x = 0) : (l.map f).sum = 0 := by
  induction l with
  | nil => simp
  | cons a l ih =>
    simp only [List.map_cons, List.sum_cons]
    rw [h a (by simp), ih fun x hx => h x (by simp [hx])]
    grind
theorem sm_ne {α : Type} (l : List α) (f : α → Rat) (h : (l.map f).sum ≠ 0) : ∃ x ∈ l, f x ≠ 0 := by
  false_or_by_contra
  rename_i hn
  apply h
  apply sm_zero
  intro x hx
  false_or_by_contra
  rename_i h2
  exact hn ⟨x, hx, h2⟩
/-- one row's own part -/
theorem Red.own {l : List (List Rat)} (h : Red l) {b : List Rat} (hb : b ∈ l) (i : Nat) : (l.map fun c => fn b (first c) * fn c i).sum = fn b i := by
  induction l with
  | nil => simp at hb
  | cons a l ih =>
    simp only [List.map_cons, List.sum_cons]
    have hr : Red l := ⟨fun c hc => h.one c (by simp [hc]), h.off.of_cons⟩
    have ho := (List.pairwise_cons.mp h.off).1
    rcases List.mem_cons.mp hb with e | hb'
    · subst e
      rw [h.one b (by simp), sm_zero]
      · grind
      · intro c hc
        rw [(ho c hc).1]; grind
    · rw [ih hr hb', (ho b hb').2]
      grind
theorem Red.coords {l : List (List Rat)} (h : Red l) {v : Nat → Rat} (hv : Sp l v) (i : Nat) : v i = (l.map fun b => v (first b) * fn b i).sum := by
  induction hv with
  | zero =>
    rw [sm_zero]
    intro x _
    grind
  | @step r v b _ hb ih =>
    have e : (fun c : List Rat => (v (first c) + r * fn b (first c)) * fn c i) = fun c => v (first c) * fn c i + r * (fn b (first c) * fn c i) := by
      funext c; grind
    simp only [e]
    rw [sm_add, sm_mul, h.own hb]
    grind
theorem Red.lead {l : List (List Rat)} (h : Red l) {v : Nat → Rat} (hv : Sp l v) {k : Nat} (hk : v k ≠ 0) (h0 : ∀ i < k, v i = 0) : ∃ b ∈ l, first b = k := by
  have e := h.coords hv k
  rw [e] at hk
  obtain ⟨b, hb, hn⟩ := sm_ne _ _ hk
  refine ⟨b, hb, ?_⟩
  have h1 : v (first b) ≠ 0 := by intro z; apply hn; rw [z]; grind
  have h2 : fn b k ≠ 0 := by intro z; apply hn; rw [z]; grind
  have h3 := first_le h2
  rcases Nat.lt_or_ge (first b) k with h4 | h4
  · exact absurd (h0 _ h4) h1
  · omega
theorem Red.off' {l : List (List Rat)} (h : Red l) {a b : List Rat} (ha : a ∈ l) (hb : b ∈ l) (hne : first a ≠ first b) : fn a (first b) = 0 := by
  have hp := h.off
  induction l with
  | nil => simp at ha
  | cons c l ih =>
    have hr : Red l := ⟨fun c hc => h.one c (by simp [hc]), h.off.of_cons⟩
    have ho := (List.pairwise_cons.mp h.off).1
    rcases List.mem_cons.mp ha with e | ha'
    · rcases List.mem_cons.mp hb with e2 | hb'
      · subst e; subst e2; exact absurd rfl hne
      · subst e; exact (ho b hb').1
    · rcases List.mem_cons.mp hb with e2 | hb'
      · subst e2; exact (ho a ha').2
      · exact ih hr ha' hb' hr.off
theorem Red.self {l k : List (List Rat)} (h : Red l) (h' : Red k) (s : ∀ b ∈ l, Sp k (fn b)) (s' : ∀ b ∈ k, Sp l (fn b)) {N : Nat} (n1 : ∀ b ∈ l, b.length = N) (n2 : ∀ b ∈ k, b.length = N) :
    ∀ b ∈ l, b ∈ k := by
  intro b hb
  have lead1 : ∀ {a : List Rat} {l : List (List Rat)}, Red l → a ∈ l → fn a (first a) ≠ 0 := fun h ha => by rw [h.one _ ha]; decide
  obtain ⟨b', hb', e⟩ := h'.lead (s b hb) (lead1 h hb) (fun i hi => fn_first_lt hi)
  have key : fn b = fn b' := by
    funext i
    rw [h'.coords (s b hb) i, ← h'.own hb' i]
    congr 1
    apply List.map_congr_left
    intro c hc
    congr 1
    obtain ⟨c', hc', ec⟩ := h.lead (s' c hc) (lead1 h' hc) (fun i hi => fn_first_lt hi)
    by_cases q : first c = first b'
    · rw [q, h'.one _ hb', e, h.one _ hb]
    · rw [h'.off' hb' hc (fun z => q z.symm), ← ec, h.off' hb hc' (by rw [ec, ← e]; exact fun z => q z.symm)]
  have : b = b' := fn_ext (by rw [n1 b hb, n2 b' hb']) fun i => by rw [key]
  rw [this]; exact hb'
theorem sorted_same {α : Type} (f : α → Nat) : ∀ {l k : List α}, l.Pairwise (fun a b => f a < f b) → k.Pairwise (fun a b => f a < f b) → (∀ x ∈ l, x ∈ k) → (∀ x ∈ k, x ∈ l) → l = k
  | [], [], _, _, _, _ => rfl
  | [], b :: k, _, _, _, h => by have := h b (by simp); simp at this
  | a :: l, [], _, _, h, _ => by have := h a (by simp); simp at this
  | a :: l, b :: k, p, q, h1, h2 => by
    have p1 := (List.pairwise_cons.mp p).1
    have q1 := (List.pairwise_cons.mp q).1
    have e : a = b := by
      rcases List.mem_cons.mp (h1 a (by simp)) with e | ha
      · exact e
      · rcases List.mem_cons.mp (h2 b (by simp)) with e | hb
        · exact e.symm
        · have := p1 b hb; have := q1 a ha; omega
    subst e
    congr 1
    refine sorted_same f p.of_cons q.of_cons ?_ ?_
    · intro x hx
      rcases List.mem_cons.mp (h1 x (by simp [hx])) with e | hk
      · subst e; have := p1 x hx; omega
      · exact hk
    · intro x hx
      rcases List.mem_cons.mp (h2 x (by simp [hx])) with e | hk
      · subst e; have := q1 x hx; omega
      · exact hk
/-- **In one way**: reduced rows, in order, that make the same are the same. -/
theorem Red.unique {l k : List (List Rat)} (h : Red l) (h' : Red k) (s : ∀ b ∈ l, Sp k (fn b)) (s' : ∀ b ∈ k, Sp l (fn b)) {N : Nat} (n1 : ∀ b ∈ l, b.length = N) (n2 : ∀ b ∈ k, b.length = N)
    (o1 : l.Pairwise fun a b => first a < first b) (o2 : k.Pairwise fun a b => first a < first b) : l = k :=
  sorted_same first o1 o2 (h.self h' s s' n1 n2) (h'.self h s' s n2 n1)
/-! the specification's basis -/
theorem len_lessen {N : Nat} : ∀ (l : List (List Rat)) (a : List Rat), a.length = N → (∀ b ∈ l, b.length = N) → (lessen l a).length = N
  | [], a, h, _ => h
  | b :: l, a, h, hl => by
    show (lessen l (plus a (scale (-(a.getD (first b) 0)) b))).length = N
    refine len_lessen l _ ?_ fun c hc => hl c (by simp [hc])
    rw [len_plus _ _ (by rw [len_scale, h, hl b (by simp)]), h]
theorem lessen_cons (b : List Rat) (l : List (List Rat)) (a : List Rat) : lessen (b :: l) a = lessen l (plus a (scale (-(fn a (first b))) b)) := rfl
theorem fn_take1 {N : Nat} {a b : List Rat} (ha : a.length = N) (hb : b.length = N) (r : Rat) (i : Nat) : fn (plus a (scale r b)) i = fn a i + r * fn b i := by
  rw [fn_plus _ _ (by rw [len_scale, ha, hb]), fn_scale]
theorem lessen_span {N : Nat} : ∀ (l : List (List Rat)) (a : List Rat), a.length = N → (∀ b ∈ l, b.length = N) → ∃ v, Sp l v ∧ ∀ i, fn (lessen l a) i = fn a i + v i
  | [], a, _, _ => ⟨fun _ => 0, Sp.zero, fun i => by show fn a i = _; grind⟩
  | b :: l, a, h, hl => by
    have hb := hl b (by simp)
    have hn : (plus a (scale (-(fn a (first b))) b)).length = N := by rw [len_plus _ _ (by rw [len_scale, h, hb]), h]
    obtain ⟨v, hv, e⟩ := lessen_span l _ hn fun c hc => hl c (by simp [hc])
    refine ⟨fun i => v i + (-(fn a (first b))) * fn b i, Sp.step _ (Sp.mono (fun c hc => by simp [hc]) hv) (by simp), fun i => ?_⟩
    rw [lessen_cons, e, fn_take1 h hb]
    grind
theorem lessen_keep {N : Nat} {k : Nat} : ∀ (l : List (List Rat)) (a : List Rat), a.length = N → (∀ b ∈ l, b.length = N) → (∀ b ∈ l, fn b k = 0) → fn (lessen l a) k = fn a k := by
  intro l a h hl hk
  obtain ⟨v, hv, e⟩ := lessen_span l a h hl
  rw [e]
  have : v k = 0 := by
    clear e
    induction hv with
    | zero => rfl
    | step r _ hb ih => show _ + _ = (0 : Rat); rw [ih, hk _ hb]; grind
  rw [this]; grind
theorem lessen_off {N : Nat} : ∀ (l : List (List Rat)) (a : List Rat), Red l → a.length = N → (∀ b ∈ l, b.length = N) → ∀ b ∈ l, fn (lessen l a) (first b) = 0
  | [], _, _, _, _, b, hb => by simp at hb
  | c :: l, a, hR, h, hl, b, hb => by
    have hc := hl c (by simp)
    have hr : Red l := ⟨fun c hc => hR.one c (by simp [hc]), hR.off.of_cons⟩
    have ho := (List.pairwise_cons.mp hR.off).1
    have hn : (plus a (scale (-(fn a (first c))) c)).length = N := by rw [len_plus _ _ (by rw [len_scale, h, hc]), h]
    rw [lessen_cons]
    rcases List.mem_cons.mp hb with e | hb'
    · subst e
      rw [lessen_keep l _ hn (fun c hc => hl c (by simp [hc])) (fun d hd => (ho d hd).2), fn_take1 h hc, hR.one b (by simp)]
      grind
    · exact lessen_off l _ hr hn (fun c hc => hl c (by simp [hc])) b hb'
theorem any_ne {x : List Rat} : (x.any fun (y : Rat) => decide (y ≠ 0)) = false ↔ ∀ i, fn x i = 0 := by
  constructor
  · intro h i
    rcases Nat.lt_or_ge i x.length with hi | hi
    · have := List.any_eq_false.mp h (x[i]) (List.getElem_mem hi)
      simp at this
      simpa [fn, List.getD_eq_getElem?_getD, List.getElem?_eq_getElem hi] using this
    · exact fn_ge hi
  · intro h
    apply List.any_eq_false.mpr
    intro y hy
    obtain ⟨i, hi, e⟩ := List.getElem_of_mem hy
    have := h i
    simp [fn, List.getD_eq_getElem?_getD, List.getElem?_eq_getElem hi] at this
    simp [← e, this]
structure Good (N : Nat) (l : List (List Rat)) : Prop where
  red : Red l
  len : ∀ b ∈ l, b.length = N
theorem taken_good {N : Nat} {l : List (List Rat)} {a : List Rat} (g : Good N l) (ha : a.length = N) :
    Good N (taken l a) ∧ (∀ b ∈ taken l a, Sp (l ++ [a]) (fn b)) ∧ (∀ b ∈ l ++ [a], Sp (taken l a) (fn b)) := by
  unfold taken
  have hx := len_lessen l a ha g.len
  obtain ⟨v, hv, ev⟩ := lessen_span l a ha g.len
  have hoff := lessen_off l a g.red ha g.len
  generalize lessen l a = x at hx ev hoff
  simp only
  split
  · rename_i h0
    have hz := any_ne.mp h0
    refine ⟨g, fun b hb => Sp.mem (by simp [hb]), fun b hb => ?_⟩
    rcases List.mem_append.mp hb with hb | hb
    · exact Sp.mem hb
    · simp at hb; subst hb
      refine (hv.mul (-1)).eq fun i => ?_
      have := ev i
      rw [hz i] at this
      grind
  · rename_i h0
    have hne : ∃ k, fn x k ≠ 0 := by
      false_or_by_contra
      rename_i hn
      exact h0 (any_ne.mpr fun i => by false_or_by_contra; rename_i h2; exact hn ⟨i, h2⟩)
    obtain ⟨k, hk⟩ := hne
    have hf := first_ne hk
    have ex : x.getD (first x) 0 = fn x (first x) := rfl
    rw [ex]
    have hp : ∀ i, fn (scale (1 / fn x (first x)) x) i = fn x i / fn x (first x) := fun i => by rw [fn_scale]; grind
    have hfp : first (scale (1 / fn x (first x)) x) = first x := by
      apply first_eq
      · rw [hp]; grind
      · intro i hi; rw [hp, fn_first_lt hi]; grind
    have hlp : (scale (1 / fn x (first x)) x).length = N := by rw [len_scale, hx]
    generalize scale (1 / fn x (first x)) x = p at hp hfp hlp
    have hp1 : fn p (first p) = 1 := by rw [hfp, hp]; grind
    have hpo : ∀ b ∈ l, fn p (first b) = 0 := fun b hb => by rw [hp, hoff b hb]; grind
    have hnew : ∀ b ∈ l, ∀ i, fn (plus b (scale (-(b.getD (first p) 0)) p)) i = fn b i + (-(fn b (first p))) * fn p i := fun b hb i => fn_take1 (g.len b hb) hlp _ i
    have hdiff : ∀ b ∈ l, first b ≠ first p := by
      intro b hb e
      have := hpo b hb
      rw [e, hp1] at this
      exact absurd this (by decide)
    have hfirst : ∀ b ∈ l, first (plus b (scale (-(b.getD (first p) 0)) p)) = first b := by
      intro b hb
      apply first_eq
      · rw [hnew b hb, hpo b hb, g.red.one b hb]; grind
      · intro i hi
        rw [hnew b hb, fn_first_lt hi]
        by_cases q : i < first p
        · rw [fn_first_lt q]; grind
        · have : first p < first b := by omega
          rw [fn_first_lt this]; grind
    have hlen : ∀ b ∈ l, (plus b (scale (-(b.getD (first p) 0)) p)).length = N := fun b hb => by
      rw [len_plus _ _ (by rw [len_scale, hlp, g.len b hb]), g.len b hb]
    have hsx : Sp (l ++ [a]) (fn x) := ((Sp.mem (l := l ++ [a]) (b := a) (by simp)).add (Sp.mono (k := l ++ [a]) (fun c hc => by simp [hc]) hv)).eq fun i => (ev i).symm
    have hsp : Sp (l ++ [a]) (fn p) := (hsx.mul (1 / fn x (first x))).eq fun i => by rw [hp]; grind
    refine ⟨⟨⟨?_, ?_⟩, ?_⟩, ?_, ?_⟩
    · intro b hb
      rcases List.mem_append.mp hb with hb | hb
      · obtain ⟨c, hc, rfl⟩ := List.mem_map.mp hb
        rw [hfirst c hc, hnew c hc, hpo c hc, g.red.one c hc]; grind
      · simp at hb; subst hb; exact hp1
    · apply List.pairwise_append.mpr
      refine ⟨?_, by simp, ?_⟩
      · rw [List.pairwise_map]
        refine List.Pairwise.imp_of_mem ?_ g.red.off
        intro c d hc hd ⟨h1, h2⟩
        rw [hfirst c hc, hfirst d hd, hnew c hc, hnew d hd, hpo c hc, hpo d hd, h1, h2]
        constructor <;> grind
      · intro c hc q hq
        simp at hq; subst hq
        obtain ⟨b, hb, rfl⟩ := List.mem_map.mp hc
        rw [hfirst b hb, hnew b hb, hp1, hpo b hb]
        constructor <;> grind
    · intro b hb
      rcases List.mem_append.mp hb with hb | hb
      · obtain ⟨c, hc, rfl⟩ := List.mem_map.mp hb
        exact hlen c hc
      · simp at hb; subst hb; exact hlp
    · intro b hb
      rcases List.mem_append.mp hb with hb | hb
      · obtain ⟨c, hc, rfl⟩ := List.mem_map.mp hb
        exact ((Sp.mem (l := l ++ [a]) (b := c) (by simp [hc])).add (hsp.mul _)).eq fun i => (hnew c hc i).symm
      · simp at hb; subst hb; exact hsp
    · generalize hq : l.map (fun (b : Poly) => plus b (scale (-(b.getD (first p) 0)) p)) ++ [p] = m
      have pm : Sp m (fn p) := Sp.mem (by rw [← hq]; simp)
      have lm : ∀ b ∈ l, Sp m (fn b) := fun b hb => by
        have : Sp m (fn (plus b (scale (-(b.getD (first p) 0)) p))) := Sp.mem (by rw [← hq]; exact List.mem_append_left _ (List.mem_map.mpr ⟨b, hb, rfl⟩))
        exact (this.add (pm.mul (fn b (first p)))).eq fun i => by rw [hnew b hb]; grind
      intro b hb
      rcases List.mem_append.mp hb with hb | hb
      · exact lm b hb
      · simp at hb; subst hb
        have h1 : Sp m v := Sp.trans lm hv
        exact ((pm.mul (fn x (first x))).add (h1.mul (-1))).eq fun i => by rw [hp, ev]; grind
theorem fold_taken {N : Nat} : ∀ (r l : List (List Rat)), Good N l → (∀ b ∈ r, b.length = N) →
    Good N (r.foldl taken l) ∧ (∀ b ∈ r.foldl taken l, Sp (l ++ r) (fn b)) ∧ (∀ b ∈ l ++ r, Sp (r.foldl taken l) (fn b))
  | [], l, g, _ => ⟨g, fun b hb => Sp.mem (by simpa using hb), fun b hb => Sp.mem (by simpa using hb)⟩
  | a :: r, l, g, hr => by
    obtain ⟨g1, s1, s2⟩ := taken_good g (hr a (by simp))
    obtain ⟨g2, t1, t2⟩ := fold_taken r (taken l a) g1 fun b hb => hr b (by simp [hb])
    refine ⟨g2, ?_, ?_⟩
    · intro b hb
      refine Sp.trans ?_ (t1 b hb)
      intro c hc
      rcases List.mem_append.mp hc with hc | hc
      · exact Sp.mono (fun d hd => by simp at hd ⊢; rcases hd with h | h <;> simp [h]) (s1 c hc)
      · exact Sp.mem (by simp [hc])
    · intro b hb
      have mv : ∀ {c}, c ∈ l ++ [a] → Sp (r.foldl taken (taken l a)) (fn c) := fun hc => Sp.trans (fun d hd => t2 d (by simp [hd])) (s2 _ hc)
      rcases List.mem_append.mp hb with hb | hb
      · exact mv (by simp [hb])
      · rcases List.mem_cons.mp hb with e | hb
        · exact mv (by simp [e])
        · exact t2 b (by simp [hb])
theorem insertPoly_perm (a : List Rat) : ∀ l : List (List Rat), (insertPoly a l).Perm (a :: l)
  | [] => by simp [insertPoly]
  | b :: l => by
    unfold insertPoly
    split
    · exact List.Perm.refl _
    · exact ((insertPoly_perm a l).cons b).trans (List.Perm.swap a b l)
theorem insertPoly_sorted (a : List Rat) : ∀ l : List (List Rat), l.Pairwise (fun a b => first a < first b) → (∀ b ∈ l, first a ≠ first b) → (insertPoly a l).Pairwise (fun a b => first a < first b)
  | [], _, _ => by simp [insertPoly]
  | b :: l, h, hne => by
    unfold insertPoly
    have h1 := (List.pairwise_cons.mp h).1
    split
    · rename_i q
      simp [firstBefore] at q
      refine List.pairwise_cons.mpr ⟨fun c hc => ?_, h⟩
      rcases List.mem_cons.mp hc with e | hc
      · rw [e]; exact q
      · have := h1 c hc; omega
    · rename_i q
      simp [firstBefore] at q
      have := hne b (by simp)
      refine List.pairwise_cons.mpr ⟨fun c hc => ?_, insertPoly_sorted a l h.of_cons fun d hd => hne d (by simp [hd])⟩
      rcases List.mem_cons.mp ((insertPoly_perm a l).mem_iff.mp hc) with e | hc
      · rw [e]; omega
      · exact h1 c hc
theorem Red.distinct {l : List (List Rat)} (h : Red l) : l.Pairwise fun a b => first a ≠ first b := by
  refine List.Pairwise.imp_of_mem ?_ h.off
  intro a b ha hb ⟨_, h2⟩ e
  have := h.one b hb
  rw [← e, h2] at this
  exact absurd this (by decide)
theorem Red.perm {l k : List (List Rat)} (h : Red l) (p : l.Perm k) : Red k :=
  ⟨fun b hb => h.one b (p.mem_iff.mpr hb), p.pairwise h.off fun h => ⟨h.2, h.1⟩⟩
theorem sort_fold : ∀ (l s : List (List Rat)), s.Pairwise (fun a b => first a < first b) → (s ++ l).Pairwise (fun a b => first a ≠ first b) →
    (l.foldl (fun s a => insertPoly a s) s).Pairwise (fun a b => first a < first b) ∧ (l.foldl (fun s a => insertPoly a s) s).Perm (s ++ l)
  | [], s, h, _ => ⟨h, by simp⟩
  | a :: l, s, h, hd => by
    have q := List.pairwise_append.mp hd
    have hp : (insertPoly a s ++ l).Perm (s ++ a :: l) := ((insertPoly_perm a s).append_right l).trans (by simpa using (List.perm_middle (a := a) (l₁ := s) (l₂ := l)).symm)
    obtain ⟨i1, i2⟩ := sort_fold l (insertPoly a s) (insertPoly_sorted a s h fun b hb => fun e => q.2.2 b hb a (by simp) e.symm) (hp.symm.pairwise hd fun h e => h e.symm)
    exact ⟨i1, i2.trans hp⟩
/-- **The specification's basis.** -/
theorem basis_good {N : Nat} (l : List (List Rat)) (hl : ∀ b ∈ l, b.length = N) :
    Good N (basis l) ∧ (basis l).Pairwise (fun a b => first a < first b) ∧ (∀ b ∈ basis l, Sp l (fn b)) ∧ (∀ b ∈ l, Sp (basis l) (fn b)) := by
  obtain ⟨g, s1, s2⟩ := fold_taken (N := N) l [] ⟨⟨by simp, by simp⟩, by simp⟩ hl
  obtain ⟨o, p⟩ := sort_fold (l.foldl taken []) [] (by simp) (by simpa using g.red.distinct)
  have p' : (basis l).Perm (l.foldl taken []) := by simpa [basis] using p
  refine ⟨⟨g.red.perm p'.symm, fun b hb => g.len b (p'.mem_iff.mp hb)⟩, o, fun b hb => ?_, fun b hb => ?_⟩
  · simpa using s1 b (p'.mem_iff.mp hb)
  · exact Sp.mono (fun c hc => p'.mem_iff.mpr hc) (s2 b (by simpa using hb))
/-- whatever is reduced, in order, and makes the same, is the basis -/
theorem basis_unique {N : Nat} {l k : List (List Rat)} (hl : ∀ b ∈ l, b.length = N) (g : Good N k) (o : k.Pairwise (fun a b => first a < first b)) (s1 : ∀ b ∈ k, Sp l (fn b)) (s2 : ∀ b ∈ l, Sp k (fn b)) : basis l = k := by
  obtain ⟨gb, ob, t1, t2⟩ := basis_good l hl
  exact gb.red.unique g.red (fun b hb => Sp.trans s2 (t1 b hb)) (fun b hb => Sp.trans t2 (s1 b hb)) gb.len g.len ob o
end LA
namespace LA
open Wp04
theorem rsum_acc : ∀ (l : List Rat) (a : Rat), l.foldl (fun a b => a + b) a = a + l.sum
  | [], a => by simp [Rat.add_zero]
  | b :: l, a => by
    rw [List.foldl_cons, rsum_acc l, List.sum_cons]
    grind
theorem rsum_eq (l : List Rat) : rsum l = l.sum := by
  unfold rsum
  rw [rsum_acc]
  grind
theorem isum_acc : ∀ (l : List Int) (a : Int), l.foldl (fun a b => a + b) a = a + l.sum
  | [], a => by simp
  | b :: l, a => by
    rw [List.foldl_cons, isum_acc l, List.sum_cons]
    grind
theorem isum_eq (l : List Int) : isum l = l.sum := by
  unfold isum
  rw [isum_acc]
  grind
theorem rpow_add (x : Rat) (a : Nat) : ∀ b, x ^ (a + b) = x ^ a * x ^ b
  | 0 => by rw [Nat.add_zero, Rat.pow_zero]; grind
  | b + 1 => by rw [← Nat.add_assoc, Rat.pow_succ, Rat.pow_succ, rpow_add x a b]; grind
theorem rmul_pow (x y : Rat) : ∀ k : Nat, (x * y) ^ k = x ^ k * y ^ k
  | 0 => by rw [Rat.pow_zero, Rat.pow_zero, Rat.pow_zero]; grind
  | k + 1 => by rw [Rat.pow_succ, Rat.pow_succ, Rat.pow_succ, rmul_pow x y k]; grind
theorem rone_pow : ∀ k : Nat, (1 : Rat) ^ k = 1
  | 0 => Rat.pow_zero ..
  | k + 1 => by rw [Rat.pow_succ, rone_pow k, Rat.mul_one]
/-- a monomial's value -/
def mev : List Nat → List Rat → Rat
  | k :: m, x :: xs => x ^ k * mev m xs
  | _, _ => 1
theorem mem_monos : ∀ {n d : Nat} {m : List Nat}, m ∈ monos n d ↔ m.length = n ∧ m.sum = d
  | 0, d, m => by
    unfold monos
    by_cases h : d = 0
    · subst h
      cases m <;> simp
    · rw [if_neg h]
      cases m with
      | nil => simp; omega
      | cons => simp
  | n + 1, d, m => by
    unfold monos
    simp only [List.mem_flatMap, List.mem_reverse, List.mem_range, List.mem_map]
    constructor
    · rintro ⟨k, hk, m', hm, rfl⟩
      obtain ⟨h1, h2⟩ := mem_monos.mp hm
      simp; omega
    · rintro ⟨h1, h2⟩
      cases m with
      | nil => simp at h1
      | cons k m' =>
        simp at h1 h2
        exact ⟨k, by omega, m', mem_monos.mpr ⟨h1, by omega⟩, rfl⟩
theorem nodup_monos : ∀ (n d : Nat), (monos n d).Nodup
  | 0, d => by
    unfold monos
    split <;> simp
  | n + 1, d => by
    unfold monos
    rw [List.Nodup, List.pairwise_flatMap]
    refine ⟨fun k _ => ?_, ?_⟩
    · rw [List.pairwise_map]
      exact (nodup_monos n (d - k)).imp fun h e => h (List.cons.inj e).2
    · have : (List.range (d + 1)).reverse.Pairwise (· ≠ ·) := List.pairwise_reverse.mpr ((List.nodup_range (n := d + 1)).imp fun h e => h e.symm)
      refine this.imp ?_
      intro a b hab x hx y hy e
      obtain ⟨x', _, rfl⟩ := List.mem_map.mp hx
      obtain ⟨y', _, rfl⟩ := List.mem_map.mp hy
      exact hab (List.cons.inj e).1
/-- a polynomial's value -/
def ev (n d : Nat) (f : List Rat) (x : List Rat) : Rat := (((monos n d).zip f).map fun p => p.2 * mev p.1 x).sum
theorem zip_map_self {α β : Type} (l : List α) (g : α → β) : l.zip (l.map g) = l.map fun m => (m, g m) := by
  induction l with
  | nil => rfl
  | cons a l ih => simp [ih]
theorem ev_map (n d : Nat) (g : List Nat → Rat) (x : List Rat) : ev n d ((monos n d).map g) x = ((monos n d).map fun m => g m * mev m x).sum := by
  unfold ev
  rw [zip_map_self, List.map_map]
  rfl
theorem sum_pick {α : Type} [DecidableEq α] (f : α → Rat) (c : α) : ∀ (l : List α), l.Nodup → c ∈ l → (l.map fun m => if c = m then f m else 0).sum = f c
  | [], _, h => by simp at h
  | a :: l, hn, h => by
    simp only [List.map_cons, List.sum_cons]
    have hn' := List.nodup_cons.mp hn
    by_cases e : c = a
    · subst e
      rw [if_pos rfl, sm_zero]
      · grind
      · intro x hx
        rw [if_neg]
        intro e
        subst e
        exact hn'.1 hx
    · rw [if_neg e, sum_pick f c l hn'.2 (by simpa [e] using h)]
      grind
theorem sum_swap {α β : Type} (l : List α) (k : List β) (f : α → β → Rat) : (l.map fun a => (k.map fun b => f a b).sum).sum = (k.map fun b => (l.map fun a => f a b).sum).sum := by
  induction l with
  | nil => simp; induction k with
    | nil => rfl
    | cons b k ih => simp; grind
  | cons a l ih => simp only [List.map_cons, List.sum_cons, sm_add, ih]
theorem sum_mul_right {α : Type} (l : List α) (r : Rat) (f : α → Rat) : (l.map fun x => f x * r).sum = (l.map f).sum * r := by
  have : (fun x => f x * r) = fun x => r * f x := by funext x; grind
  rw [this, sm_mul]
  grind
def addM (a b : List Nat) : List Nat := (a.zip b).map fun z => z.1 + z.2
theorem mev_add : ∀ (a b : List Nat) (x : List Rat), a.length = b.length → mev (addM a b) x = mev a x * mev b x
  | [], [], x, _ => by simp [addM, mev]
  | [], _ :: _, _, h => by simp at h
  | _ :: _, [], _, h => by simp at h
  | a :: as, b :: bs, [], _ => by simp [addM, mev]
  | a :: as, b :: bs, x :: xs, h => by
    have ih := mev_add as bs xs (by simpa using h)
    show x ^ (a + b) * mev (addM as bs) xs = (x ^ a * mev as xs) * (x ^ b * mev bs xs)
    rw [ih, rpow_add]
    grind
theorem addM_mem {n d e : Nat} {a b : List Nat} (ha : a ∈ monos n d) (hb : b ∈ monos n e) : addM a b ∈ monos n (d + e) := by
  obtain ⟨h1, h2⟩ := mem_monos.mp ha
  obtain ⟨h3, h4⟩ := mem_monos.mp hb
  refine mem_monos.mpr ⟨by simp [addM, h1, h3], ?_⟩
  clear ha hb
  subst h2 h4
  have : ∀ (a b : List Nat), a.length = b.length → (addM a b).sum = a.sum + b.sum := by
    intro a
    induction a with
    | nil => intro b h; cases b <;> simp [addM] at h ⊢
    | cons x a ih =>
      intro b h
      cases b with
      | nil => simp at h
      | cons y b =>
        have := ih b (by simpa using h)
        show (x + y) + (addM a b).sum = _
        rw [this]; simp; omega
  exact this a b (by omega)
theorem mem_zip_left {α β : Type} {l : List α} {k : List β} {p : α × β} (h : p ∈ l.zip k) : p.1 ∈ l := (List.of_mem_zip (a := p.1) (b := p.2) h).1
theorem len_times (n d e : Nat) (a b : List Rat) : (times n d e a b).length = (monos n (d + e)).length := by simp [times]
/-- **products** -/
theorem ev_times (n d e : Nat) (a b x : List Rat) : ev n (d + e) (times n d e a b) x = ev n d a x * ev n e b x := by
  unfold times
  simp only
  rw [ev_map]
  generalize hX : (monos n d).zip a = X
  generalize hY : (monos n e).zip b = Y
  have key : ∀ m, rsum (X.map fun (p : List Nat × Rat) => if p.2 = 0 then 0 else rsum (Y.map fun (q : List Nat × Rat) => if (p.1.zip q.1).map (fun (z : Nat × Nat) => z.1 + z.2) = m then p.2 * q.2 else 0)) * mev m x
      = (X.map fun p => (Y.map fun q => (p.2 * q.2) * (if addM p.1 q.1 = m then mev m x else 0)).sum).sum := by
    intro m
    rw [rsum_eq, ← sum_mul_right]
    congr 1
    apply List.map_congr_left
    intro p _
    split
    · rename_i h0
      rw [h0, sm_zero]
      · grind
      · intro q _; grind
    · rw [rsum_eq, ← sum_mul_right]
      congr 1
      apply List.map_congr_left
      intro q _
      show (if addM p.1 q.1 = m then _ else _) * _ = _
      split <;> grind
  rw [List.map_congr_left fun m _ => key m, sum_swap]
  have h2 : ∀ p ∈ X, ((monos n (d + e)).map fun m => (Y.map fun q => (p.2 * q.2) * (if addM p.1 q.1 = m then mev m x else 0)).sum).sum = (p.2 * mev p.1 x) * (Y.map fun q => q.2 * mev q.1 x).sum := by
    intro p hp
    rw [sum_swap, ← sm_mul]
    congr 1
    apply List.map_congr_left
    intro q hq
    have mp : p.1 ∈ monos n d := mem_zip_left (by rw [hX]; exact hp)
    have mq : q.1 ∈ monos n e := mem_zip_left (by rw [hY]; exact hq)
    rw [sm_mul, sum_pick (fun m => mev m x) _ _ (nodup_monos _ _) (addM_mem mp mq), mev_add _ _ _ (by rw [(mem_monos.mp mp).1, (mem_monos.mp mq).1])]
    grind
  rw [List.map_congr_left h2, sum_mul_right]
  unfold ev
  rw [hX, hY]
theorem monos_zero (n : Nat) : monos n 0 = [List.replicate n 0] := by
  induction n with
  | zero => rfl
  | succ n ih =>
    unfold monos
    simp [ih, List.replicate_succ, List.range_succ]
theorem mev_zero : ∀ (n : Nat) (x : List Rat), mev (List.replicate n 0) x = 1
  | 0, x => by simp [mev]
  | n + 1, [] => by simp [mev, List.replicate_succ]
  | n + 1, y :: x => by
    rw [List.replicate_succ]
    show y ^ 0 * mev (List.replicate n 0) x = 1
    rw [mev_zero n x, Rat.pow_zero]
    grind
theorem ev_one (n : Nat) (x : List Rat) : ev n 0 [1] x = 1 := by
  unfold ev
  rw [monos_zero]
  simp [mev_zero, Rat.add_zero]
theorem len_power (n : Nat) (l : List Rat) (k : Nat) : (power n l k).length = (monos n k).length := by
  cases k with
  | zero => simp [power, monos_zero]
  | succ k => simp [power, len_times]
theorem ev_power (n : Nat) (l x : List Rat) : ∀ k, ev n k (power n l k) x = (ev n 1 l x) ^ k
  | 0 => by rw [power, ev_one, Rat.pow_zero]
  | k + 1 => by rw [power, ev_times, ev_power n l x k, Rat.pow_succ]
/-- a table at a point -/
def ap (n : Nat) (t : Tab) (x : List Rat) : List Rat := (List.range n).map fun i => ev n 1 (unknown n t i) x
theorem mono_fold (n : Nat) (t : Tab) (x : List Rat) (hn : ∀ i, i < n → True) : ∀ (m : List Nat) (j : Nat) (a : Nat × Poly), a.2.length = (monos n a.1).length →
    ((m.zipIdx j).foldl (fun (a : Nat × Poly) (x : Nat × Nat) => (a.1 + x.1, times n a.1 x.1 a.2 (power n (unknown n t x.2) x.1))) a).1 = a.1 + m.sum ∧
    ((m.zipIdx j).foldl (fun (a : Nat × Poly) (x : Nat × Nat) => (a.1 + x.1, times n a.1 x.1 a.2 (power n (unknown n t x.2) x.1))) a).2.length = (monos n (a.1 + m.sum)).length ∧
    ev n (a.1 + m.sum) ((m.zipIdx j).foldl (fun (a : Nat × Poly) (x : Nat × Nat) => (a.1 + x.1, times n a.1 x.1 a.2 (power n (unknown n t x.2) x.1))) a).2 x = ev n a.1 a.2 x * mev m ((List.range' j m.length).map fun i => ev n 1 (unknown n t i) x)
  | [], j, a, h => by
    refine ⟨by simp, by simpa using h, ?_⟩
    simp [mev, Rat.mul_one]
  | k :: m, j, a, h => by
    have hl : (times n a.1 k a.2 (power n (unknown n t j) k)).length = (monos n (a.1 + k)).length := len_times _ _ _ _ _
    obtain ⟨h1, h2, h3⟩ := mono_fold n t x hn m (j + 1) (a.1 + k, times n a.1 k a.2 (power n (unknown n t j) k)) hl
    simp only [List.zipIdx_cons, List.foldl_cons, List.sum_cons]
    simp only [Nat.add_assoc] at h1 h2 h3
    refine ⟨h1, h2, ?_⟩
    rw [h3, ev_times, ev_power]
    simp only [List.length_cons, List.range'_succ, List.map_cons, mev]
    grind
theorem ev_monoMoved {n d : Nat} {t : Tab} {m : List Nat} (hm : m ∈ monos n d) (x : List Rat) :
    (monoMoved n t m).2.length = (monos n d).length ∧ ev n d (monoMoved n t m).2 x = mev m (ap n t x) := by
  obtain ⟨h1, h2⟩ := mem_monos.mp hm
  obtain ⟨_, a2, a3⟩ := mono_fold n t x (fun _ _ => trivial) m 0 (0, [1]) (by simp [monos_zero])
  simp only [Nat.zero_add, h2, h1] at a2 a3
  refine ⟨a2, ?_⟩
  unfold monoMoved
  rw [a3, ev_one]
  unfold ap
  rw [← List.range_eq_range']
  grind
theorem ev_plus {n d : Nat} : ∀ (a b x : List Rat), a.length = b.length → ev n d (plus a b) x = ev n d a x + ev n d b x := by
  intro a b x
  unfold ev
  generalize monos n d = M
  induction M generalizing a b with
  | nil => intro _; simp; grind
  | cons m M ih =>
    intro h
    cases a with
    | nil =>
      cases b with
      | nil => simp [plus]; grind
      | cons => simp at h
    | cons p a =>
      cases b with
      | nil => simp at h
      | cons q b =>
        have := ih a b (by simpa using h)
        simp only [plus, List.zip_cons_cons, List.map_cons, List.sum_cons] at this ⊢
        rw [this]
        grind
theorem ev_scale {n d : Nat} (r : Rat) (a x : List Rat) : ev n d (scale r a) x = r * ev n d a x := by
  unfold ev
  rw [← sm_mul, scale, List.zip_map_right, List.map_map]
  congr 1
  apply List.map_congr_left
  intro p _
  simp
  grind
def zeros (n d : Nat) : List Rat := (monos n d).map fun _ => 0
theorem ev_zeros (n d : Nat) (x : List Rat) : ev n d (zeros n d) x = 0 := by
  unfold zeros
  rw [ev_map, sm_zero]
  intro m _
  grind
theorem moved_fold (n d : Nat) (t : Tab) (x : List Rat) : ∀ (l : List (List Nat × Rat)) (s : Poly), (∀ p ∈ l, p.1 ∈ monos n d) → s.length = (monos n d).length →
    (l.foldl (fun (s : Poly) (x : List Nat × Rat) => if x.2 = 0 then s else plus s (scale x.2 (monoMoved n t x.1).2)) s).length = (monos n d).length ∧
    ev n d (l.foldl (fun (s : Poly) (x : List Nat × Rat) => if x.2 = 0 then s else plus s (scale x.2 (monoMoved n t x.1).2)) s) x = ev n d s x + (l.map fun p => p.2 * mev p.1 (ap n t x)).sum
  | [], s, _, h => by simp [h]; grind
  | p :: l, s, hl, h => by
    obtain ⟨e1, e2⟩ := ev_monoMoved (t := t) (hl p (by simp)) x
    simp only [List.foldl_cons, List.map_cons, List.sum_cons]
    by_cases h0 : p.2 = 0
    · rw [if_pos h0, h0]
      obtain ⟨i1, i2⟩ := moved_fold n d t x l s (fun q hq => hl q (by simp [hq])) h
      refine ⟨i1, ?_⟩
      rw [i2]; grind
    · rw [if_neg h0]
      have hs : s.length = (scale p.2 (monoMoved n t p.1).2).length := by rw [len_scale, e1, h]
      obtain ⟨i1, i2⟩ := moved_fold n d t x l (plus s (scale p.2 (monoMoved n t p.1).2)) (fun q hq => hl q (by simp [hq])) (by rw [len_plus _ _ hs, h])
      refine ⟨i1, ?_⟩
      rw [i2, ev_plus _ _ _ hs, ev_scale, e2]
      grind
theorem len_moved (n d : Nat) (t : Tab) (f : Poly) : (moved n d t f).length = (monos n d).length :=
  (moved_fold n d t [] ((monos n d).zip f) (zeros n d) (fun p hp => mem_zip_left hp) (by simp [zeros])).1
/-- **moved is: the table ahead** -/
theorem ev_moved (n d : Nat) (t : Tab) (f x : List Rat) : ev n d (moved n d t f) x = ev n d f (ap n t x) := by
  have := (moved_fold n d t x ((monos n d).zip f) (zeros n d) (fun p hp => mem_zip_left hp) (by simp [zeros])).2
  unfold moved
  rw [show ((monos n d).map fun (_ : List Nat) => (0 : Rat)) = zeros n d from rfl, this, ev_zeros]
  unfold ev
  grind
/-! one way to write a polynomial -/
theorem uni : ∀ (d : Nat) (e : Nat → Rat), (∀ x : Rat, ((List.range (d + 1)).map fun k => e k * x ^ k).sum = 0) → ∀ k, k ≤ d → e k = 0
  | 0, e, h, k, hk => by
    have := h 1
    simp [List.range_succ, Rat.add_zero] at this
    have : k = 0 := by omega
    subst this
    grind
  | d + 1, e, h, k, hk => by
    have h2 : ∀ x : Rat, ((List.range (d + 1)).map fun k => (e k * (2 ^ k - 2 ^ (d + 1))) * x ^ k).sum = 0 := by
      intro x
      have a := h (2 * x)
      have b := h x
      rw [List.range_succ, List.map_append, List.sum_append] at a b
      simp only [List.map_cons, List.map_nil, List.sum_cons, List.sum_nil] at a b
      have c : ((List.range (d + 1)).map fun k => (e k * (2 ^ k - 2 ^ (d + 1))) * x ^ k).sum = ((List.range (d + 1)).map fun k => e k * (2 * x) ^ k).sum + (-(2 ^ (d + 1))) * ((List.range (d + 1)).map fun k => e k * x ^ k).sum := by
        rw [← sm_mul, ← sm_add]
        congr 1
        apply List.map_congr_left
        intro k _
        rw [rmul_pow]
        grind
      rw [c]
      have e1 : ((2 : Rat) * x) ^ (d + 1) = 2 ^ (d + 1) * x ^ (d + 1) := rmul_pow ..
      rw [e1] at a
      grind
    have low : ∀ k, k ≤ d → e k = 0 := by
      intro k hk
      have := uni d _ h2 k hk
      have hne : ((2 : Rat) ^ k - 2 ^ (d + 1)) ≠ 0 := by
        intro z
        have z2 : ((2 : Rat) ^ k) = 2 ^ (d + 1) := by grind
        have z3 : (((2 ^ k : Nat) : Int) : Rat) = (((2 ^ (d + 1) : Nat) : Int) : Rat) := by
          simpa using z2
        have z4 : (2 ^ k : Nat) = 2 ^ (d + 1) := by exact_mod_cast z3
        have := Nat.pow_lt_pow_right (a := 2) (by decide) (show k < d + 1 by omega)
        omega
      rcases Rat.mul_eq_zero.mp this with h | h
      · exact h
      · exact absurd h hne
    by_cases hd : k ≤ d
    · exact low k hd
    · have : k = d + 1 := by omega
      subst this
      have a := h 1
      rw [List.range_succ, List.map_append, List.sum_append, sm_zero] at a
      · simp only [List.map_cons, List.map_nil, List.sum_cons, List.sum_nil, rone_pow] at a
        grind
      · intro x hx
        rw [low x (by simp at hx; omega)]
        grind
theorem sum_flatMap {α β : Type} (l : List α) (g : α → List β) (f : β → Rat) : ((l.flatMap g).map f).sum = (l.map fun a => ((g a).map f).sum).sum := by
  induction l with
  | nil => rfl
  | cons a l ih => simp [ih]
theorem sum_reverse (l : List Nat) (f : Nat → Rat) : (l.reverse.map f).sum = (l.map f).sum := by
  induction l with
  | nil => rfl
  | cons a l ih => simp [ih]; grind
theorem mono_inj : ∀ (n d : Nat) (c : List Nat → Rat), (∀ x : List Rat, x.length = n → ((monos n d).map fun m => c m * mev m x).sum = 0) → ∀ m ∈ monos n d, c m = 0
  | 0, d, c, h, m, hm => by
    have := h [] rfl
    unfold monos at this hm
    split at hm
    · rename_i hd
      rw [if_pos hd] at this
      simp at hm
      subst hm
      simp [mev] at this
      grind
    · simp at hm
  | n + 1, d, c, h, m, hm => by
    unfold monos at hm
    obtain ⟨k, hk, hm⟩ := List.mem_flatMap.mp hm
    obtain ⟨m', hm', rfl⟩ := List.mem_map.mp hm
    simp at hk
    refine mono_inj n (d - k) (fun m => c (k :: m)) (fun xs hxs => ?_) m' hm'
    refine uni d (fun k => ((monos n (d - k)).map fun m => c (k :: m) * mev m xs).sum) (fun x => ?_) k (by omega)
    have := h (x :: xs) (by simp [hxs])
    unfold monos at this
    rw [sum_flatMap, sum_reverse] at this
    rw [← this]
    congr 1
    apply List.map_congr_left
    intro j _
    rw [← sum_mul_right, List.map_map]
    congr 1
    apply List.map_congr_left
    intro m _
    show _ = c (j :: m) * (x ^ j * mev m xs)
    grind
theorem ev_idx {n d : Nat} {f : List Rat} (hf : f.length = (monos n d).length) : f = (monos n d).map fun m => fn f ((monos n d).idxOf m) := by
  apply List.ext_getElem (by simp [hf])
  intro i h1 h2
  simp only [List.getElem_map]
  rw [(nodup_monos n d).idxOf_getElem]
  simp [fn, List.getD_eq_getElem?_getD, List.getElem?_eq_getElem h1]
/-- **two with the same values everywhere are one** -/
theorem ev_inj {n d : Nat} {f g : List Rat} (hf : f.length = (monos n d).length) (hg : g.length = (monos n d).length) (h : ∀ x : List Rat, x.length = n → ev n d f x = ev n d g x) : f = g := by
  rw [ev_idx hf, ev_idx hg]
  apply List.map_congr_left
  intro m hm
  have := mono_inj n d (fun m => fn f ((monos n d).idxOf m) - fn g ((monos n d).idxOf m)) (fun x hx => ?_) m hm
  · grind
  · have e := h x hx
    have e1 := congrArg (fun q => ev n d q x) (ev_idx hf)
    have e2 := congrArg (fun q => ev n d q x) (ev_idx hg)
    simp only [ev_map] at e1 e2
    rw [e1, e2] at e
    have c : ((monos n d).map fun m => (fn f ((monos n d).idxOf m) - fn g ((monos n d).idxOf m)) * mev m x).sum = ((monos n d).map fun m => fn f ((monos n d).idxOf m) * mev m x).sum + (-1) * ((monos n d).map fun m => fn g ((monos n d).idxOf m) * mev m x).sum := by
      rw [← sm_mul, ← sm_add]
      congr 1
      apply List.map_congr_left
      intro m _
      grind
    rw [c, e]
    grind
end LA
namespace GC
open Wp04
inductive Reach (n : Nat) (gens : List Tab) : Tab → Prop
  | id : Reach n gens (ident n)
  | step {p g : Tab} : Reach n gens p → g ∈ gens → Reach n gens (then_ n p g)
theorem nodup_sub {α : Type} [DecidableEq α] : ∀ {l k : List α}, l.Nodup → (∀ x ∈ l, x ∈ k) → l.length ≤ k.length
  | [], _, _, _ => by simp
  | a :: l, k, h, s => by
    have h' := List.nodup_cons.mp h
    have ha : a ∈ k := s a (by simp)
    have := nodup_sub (l := l) (k := k.erase a) h'.2 fun x hx => by
      refine (List.mem_erase_of_ne ?_).mpr (s x (by simp [hx]))
      intro e; subst e; exact h'.1 hx
    rw [List.length_erase_of_mem ha] at this
    have : 0 < k.length := List.length_pos_of_mem ha
    simp; omega
theorem pick_spec (all : List Tab) : ∀ (l acc : List Tab), acc.Nodup → (∀ x ∈ acc, x ∉ all) →
    let r := l.foldl (fun (l : List Tab) (p : Tab) => if all.contains p = true ∨ l.contains p = true then l else l ++ [p]) acc
    r.Nodup ∧ (∀ x ∈ r, x ∉ all) ∧ (∀ x ∈ r, x ∈ acc ∨ x ∈ l) ∧ (∀ x ∈ acc, x ∈ r) ∧ (∀ x ∈ l, x ∈ all ∨ x ∈ r)
  | [], acc, h1, h2 => by
    simp only [List.foldl_nil]
    exact ⟨h1, h2, fun x hx => Or.inl hx, fun x hx => hx, fun x hx => by simp at hx⟩
  | p :: l, acc, h1, h2 => by
    simp only [List.foldl_cons]
    by_cases c : all.contains p = true ∨ acc.contains p = true
    · rw [if_pos c]
      obtain ⟨a1, a2, a3, a4, a5⟩ := pick_spec all l acc h1 h2
      refine ⟨a1, a2, fun x hx => ?_, a4, fun x hx => ?_⟩
      · rcases a3 x hx with h | h
        · exact Or.inl h
        · exact Or.inr (by simp [h])
      · rcases List.mem_cons.mp hx with e | h
        · subst e
          rcases c with c | c
          · exact Or.inl (by simpa using c)
          · exact Or.inr (a4 _ (by simpa using c))
        · exact a5 x h
    · rw [if_neg c]
      have c1 : p ∉ all := fun h => c (Or.inl (by simpa using h))
      have c2 : p ∉ acc := fun h => c (Or.inr (by simpa using h))
      have hn : (acc ++ [p]).Nodup := by
        rw [List.nodup_append]
        refine ⟨h1, by simp, ?_⟩
        intro a ha b hb e
        simp at hb; subst hb; subst e; exact c2 ha
      obtain ⟨a1, a2, a3, a4, a5⟩ := pick_spec all l (acc ++ [p]) hn (fun x hx => by
        rcases List.mem_append.mp hx with h | h
        · exact h2 x h
        · simp at h; subst h; exact c1)
      refine ⟨a1, a2, fun x hx => ?_, fun x hx => a4 x (by simp [hx]), fun x hx => ?_⟩
      · rcases a3 x hx with h | h
        · rcases List.mem_append.mp h with h | h
          · exact Or.inl h
          · simp at h; subst h; exact Or.inr (by simp)
        · exact Or.inr (by simp [h])
      · rcases List.mem_cons.mp hx with e | h
        · subst e; exact Or.inr (a4 _ (by simp))
        · exact a5 x h
structure Inv (n : Nat) (gens all new : List Tab) : Prop where
  nd : all.Nodup
  re : ∀ p ∈ all, Reach n gens p
  id : ident n ∈ all
  sub : ∀ p ∈ new, p ∈ all
  cl : ∀ p ∈ all, p ∉ new → ∀ g ∈ gens, then_ n p g ∈ all
theorem grow_spec {n : Nat} {gens : List Tab} : ∀ (f : Nat) (all new : List Tab), Inv n gens all new → (new = [] ∨ 50 ≤ all.length + f) →
    (grow n gens f all new).Nodup ∧ (∀ p ∈ grow n gens f all new, Reach n gens p) ∧ ident n ∈ grow n gens f all new ∧
    (48 < (grow n gens f all new).length ∨ ∀ p ∈ grow n gens f all new, ∀ g ∈ gens, then_ n p g ∈ grow n gens f all new)
  | 0, all, new, I, h => by
    unfold grow
    refine ⟨I.nd, I.re, I.id, ?_⟩
    rcases h with h | h
    · exact Or.inr fun p hp g hg => I.cl p hp (by rw [h]; simp) g hg
    · exact Or.inl (by omega)
  | f + 1, all, new, I, h => by
    unfold grow
    by_cases c : MOST < all.length
    · rw [if_pos c]
      exact ⟨I.nd, I.re, I.id, Or.inl c⟩
    · rw [if_neg c]
      cases new with
      | nil => exact ⟨I.nd, I.re, I.id, Or.inr fun p hp g hg => I.cl p hp (by simp) g hg⟩
      | cons q new =>
        simp only
        obtain ⟨a1, a2, a3, _, a5⟩ := pick_spec all ((q :: new).flatMap fun (p : Tab) => gens.map fun (g : Tab) => then_ n p g) [] (by simp) (by simp)
        generalize hr : ((q :: new).flatMap fun (p : Tab) => gens.map fun (g : Tab) => then_ n p g).foldl (fun (l : List Tab) (p : Tab) => if all.contains p = true ∨ l.contains p = true then l else l ++ [p]) [] = r at a1 a2 a3 a5
        refine grow_spec f (all ++ r) r ⟨?_, ?_, ?_, ?_, ?_⟩ ?_
        · rw [List.nodup_append]
          exact ⟨I.nd, a1, fun a ha b hb e => a2 b hb (e ▸ ha)⟩
        · intro p hp
          rcases List.mem_append.mp hp with hp | hp
          · exact I.re p hp
          · rcases a3 p hp with h | h
            · simp at h
            · obtain ⟨u, hu, hp⟩ := List.mem_flatMap.mp h
              obtain ⟨g, hg, rfl⟩ := List.mem_map.mp hp
              exact Reach.step (I.re u (I.sub u hu)) hg
        · exact List.mem_append_left _ I.id
        · intro p hp; exact List.mem_append_right _ hp
        · intro p hp hpr g hg
          rcases List.mem_append.mp hp with hp | hp
          · by_cases hq : p ∈ q :: new
            · rcases a5 (then_ n p g) (List.mem_flatMap.mpr ⟨p, hq, List.mem_map.mpr ⟨g, hg, rfl⟩⟩) with h | h
              · exact List.mem_append_left _ h
              · exact List.mem_append_right _ h
            · exact List.mem_append_left _ (I.cl p hp hq g hg)
          · exact absurd hp hpr
        · by_cases hz : r = []
          · exact Or.inl hz
          · have : 0 < r.length := List.length_pos_iff.mpr hz
            rcases h with h | h
            · simp at h
            · exact Or.inr (by simp; omega)
def whole (n : Nat) (gens : List Tab) : List Tab := grow n gens 100 [ident n] [ident n]
theorem whole_spec (n : Nat) (gens : List Tab) : (whole n gens).Nodup ∧ (∀ p ∈ whole n gens, Reach n gens p) ∧ ident n ∈ whole n gens ∧ (48 < (whole n gens).length ∨ ∀ p ∈ whole n gens, ∀ g ∈ gens, then_ n p g ∈ whole n gens) :=
  grow_spec 100 [ident n] [ident n] ⟨by simp, fun p hp => by simp at hp; subst hp; exact Reach.id, by simp, fun p hp => hp, fun p hp hn => absurd hp hn⟩ (Or.inr (by simp))
theorem reach_in {n : Nat} {gens l : List Tab} (hi : ident n ∈ l) (hc : ∀ p ∈ l, ∀ g ∈ gens, then_ n p g ∈ l) {p : Tab} (h : Reach n gens p) : p ∈ l := by
  induction h with
  | id => exact hi
  | step _ hg ih => exact hc _ ih _ hg
/-! the order -/
theorem lex_irrefl : ∀ a : List Int, lexBefore a a = false
  | [] => rfl
  | x :: a => by simp [lexBefore, lex_irrefl a]
theorem lex_total : ∀ {a b : List Int}, a.length = b.length → a ≠ b → lexBefore a b = false → lexBefore b a = true
  | [], [], _, h, _ => absurd rfl h
  | [], _ :: _, h, _, _ => by simp at h
  | _ :: _, [], h, _, _ => by simp at h
  | x :: a, y :: b, h, hne, hf => by
    simp only [lexBefore, Bool.or_eq_false_iff, decide_eq_false_iff_not, Bool.and_eq_false_iff, beq_eq_false_iff_ne, Bool.or_eq_true, decide_eq_true_eq, Bool.and_eq_true, beq_iff_eq] at hf ⊢
    by_cases e : x = y
    · subst e
      refine Or.inr ⟨rfl, lex_total (by simpa using h) (fun e => hne (by rw [e])) ?_⟩
      rcases hf.2 with h | h
      · exact absurd rfl h
      · exact h
    · exact Or.inl (by omega)
theorem lex_trans : ∀ {a b c : List Int}, lexBefore a b = true → lexBefore b c = true → lexBefore a c = true
  | [], _, _, h, _ => by simp [lexBefore] at h
  | _ :: _, [], _, h, _ => by simp [lexBefore] at h
  | _ :: _, _ :: _, [], _, h => by simp [lexBefore] at h
  | x :: a, y :: b, z :: c, h1, h2 => by
    simp only [lexBefore, Bool.or_eq_true, decide_eq_true_eq, Bool.and_eq_true, beq_iff_eq] at h1 h2 ⊢
    rcases h1 with h1 | ⟨e1, h1⟩
    · rcases h2 with h2 | ⟨e2, h2⟩
      · exact Or.inl (by omega)
      · exact Or.inl (by omega)
    · rcases h2 with h2 | ⟨e2, h2⟩
      · exact Or.inl (by omega)
      · exact Or.inr ⟨by omega, lex_trans h1 h2⟩
def Lt (a b : Tab) : Prop := lexBefore a b = true
theorem insert_spec {k : Nat} (t : Tab) (ht : t.length = k) : ∀ (l : List Tab), (∀ x ∈ l, x.length = k) → l.Pairwise Lt → t ∉ l → (Wp04.insert t l).Pairwise Lt ∧ (Wp04.insert t l).Perm (t :: l)
  | [], _, _, _ => by simp [Wp04.insert]
  | u :: l, hk, hp, hn => by
    unfold Wp04.insert
    have hne : t ≠ u := fun e => hn (by simp [e])
    rw [if_neg hne]
    have hu := (List.pairwise_cons.mp hp).1
    split
    · rename_i c
      refine ⟨List.pairwise_cons.mpr ⟨fun x hx => ?_, hp⟩, List.Perm.refl _⟩
      rcases List.mem_cons.mp hx with e | hx
      · subst e; exact c
      · exact lex_trans c (hu x hx)
    · rename_i c
      obtain ⟨i1, i2⟩ := insert_spec t ht l (fun x hx => hk x (by simp [hx])) hp.of_cons (fun h => hn (by simp [h]))
      refine ⟨List.pairwise_cons.mpr ⟨fun x hx => ?_, i1⟩, (i2.cons u).trans (List.Perm.swap t u l)⟩
      rcases List.mem_cons.mp (i2.mem_iff.mp hx) with e | hx
      · subst e
        exact lex_total (by rw [ht, hk u (by simp)]) hne (by simpa using c)
      · exact hu x hx
theorem fold_insert {k : Nat} : ∀ (l s : List Tab), (∀ x ∈ s ++ l, x.length = k) → s.Pairwise Lt → (s ++ l).Nodup →
    (l.foldl (fun (s : List Tab) (t : Tab) => Wp04.insert t s) s).Pairwise Lt ∧ (l.foldl (fun (s : List Tab) (t : Tab) => Wp04.insert t s) s).Perm (s ++ l)
  | [], s, _, h, _ => ⟨h, by simp⟩
  | t :: l, s, hk, h, hn => by
    have q := List.nodup_append.mp hn
    obtain ⟨i1, i2⟩ := insert_spec t (hk t (by simp)) s (fun x hx => hk x (by simp [hx])) h (fun hm => q.2.2 t hm t (by simp) rfl)
    have hp : (Wp04.insert t s ++ l).Perm (s ++ t :: l) := (i2.append_right l).trans (by simpa using (List.perm_middle (a := t) (l₁ := s) (l₂ := l)).symm)
    obtain ⟨j1, j2⟩ := fold_insert l (Wp04.insert t s) (fun x hx => hk x (hp.mem_iff.mp hx)) i1 (hp.symm.nodup hn)
    exact ⟨j1, j2.trans hp⟩
theorem sum_rep (l : List Nat) (f : Nat → List Int) (k : Nat) (h : ∀ i, (f i).length = k) : (l.flatMap f).length = l.length * k := by
  induction l with
  | nil => simp
  | cons a l ih => simp only [List.flatMap_cons, List.length_append, ih, h, List.length_cons, Nat.add_mul, Nat.one_mul]; omega
theorem len_ident (n : Nat) : (ident n).length = n * n := by
  unfold ident
  rw [sum_rep _ _ n (fun i => by simp)]
  simp
theorem len_then (n : Nat) (a b : Tab) : (then_ n a b).length = n * n := by
  unfold then_
  rw [sum_rep _ _ n (fun i => by simp)]
  simp
theorem len_reach {n : Nat} {gens : List Tab} {p : Tab} (h : Reach n gens p) : p.length = n * n := by
  cases h with
  | id => exact len_ident n
  | step => exact len_then ..
theorem group_spec (n : Nat) (gens : List Tab) : (group n gens).Pairwise Lt ∧ (group n gens).Perm (whole n gens) := by
  obtain ⟨h1, h2, _⟩ := whole_spec n gens
  have := fold_insert (k := n * n) (whole n gens) [] (fun x hx => len_reach (h2 x (by simpa using hx))) (by simp) (by simpa using h1)
  simpa [group, whole] using this
/-- sorted lists of the same members are one -/
theorem sorted_one : ∀ {l k : List Tab}, l.Pairwise Lt → k.Pairwise Lt → (∀ x ∈ l, x ∈ k) → (∀ x ∈ k, x ∈ l) → l = k
  | [], [], _, _, _, _ => rfl
  | [], b :: k, _, _, _, h => by have := h b (by simp); simp at this
  | a :: l, [], _, _, h, _ => by have := h a (by simp); simp at this
  | a :: l, b :: k, p, q, h1, h2 => by
    have p1 := (List.pairwise_cons.mp p).1
    have q1 := (List.pairwise_cons.mp q).1
    have irr : ∀ x : Tab, ¬ Lt x x := fun x h => by unfold Lt at h; rw [lex_irrefl] at h; cases h
    have e : a = b := by
      rcases List.mem_cons.mp (h1 a (by simp)) with e | ha
      · exact e
      · rcases List.mem_cons.mp (h2 b (by simp)) with e | hb
        · exact e.symm
        · exact absurd (lex_trans (p1 b hb) (q1 a ha)) (irr a)
    subst e
    congr 1
    refine sorted_one p.of_cons q.of_cons ?_ ?_
    · intro x hx
      rcases List.mem_cons.mp (h1 x (by simp [hx])) with e | hk
      · subst e; exact absurd (p1 x hx) (irr x)
      · exact hk
    · intro x hx
      rcases List.mem_cons.mp (h2 x (by simp [hx])) with e | hk
      · subst e; exact absurd (q1 x hx) (irr x)
      · exact hk
/-- **a closed list of at most 48 that is reached, in order, is the group** -/
theorem group_is {n : Nat} {gens l : List Tab} (hn : l.Nodup) (hi : ident n ∈ l) (hr : ∀ p ∈ l, Reach n gens p) (hc : ∀ p ∈ l, ∀ g ∈ gens, then_ n p g ∈ l) (h48 : l.length ≤ 48) :
    (group n gens).Perm l ∧ (group n gens).length ≤ 48 := by
  obtain ⟨w1, w2, w3, w4⟩ := whole_spec n gens
  have hs : ∀ p ∈ whole n gens, p ∈ l := fun p hp => reach_in hi hc (w2 p hp)
  have hl := nodup_sub w1 hs
  have w5 : ∀ p ∈ whole n gens, ∀ g ∈ gens, then_ n p g ∈ whole n gens := by
    rcases w4 with h | h
    · omega
    · exact h
  have ht : ∀ p ∈ l, p ∈ whole n gens := fun p hp => reach_in w3 w5 (hr p hp)
  have hp : (whole n gens).Perm l := (List.perm_ext_iff_of_nodup w1 hn).mpr fun p => ⟨hs p, ht p⟩
  have := (group_spec n gens).2.trans hp
  exact ⟨this, by rw [this.length_eq]; exact h48⟩
theorem group_sorted_is {n : Nat} {gens l : List Tab} (hn : l.Nodup) (hi : ident n ∈ l) (hr : ∀ p ∈ l, Reach n gens p) (hc : ∀ p ∈ l, ∀ g ∈ gens, then_ n p g ∈ l) (h48 : l.length ≤ 48)
    {s : List Tab} (hs : s.Pairwise Lt) (hp : s.Perm l) : group n gens = s := by
  have := (group_is hn hi hr hc h48).1
  refine sorted_one (group_spec n gens).1 hs (fun x hx => hp.mem_iff.mpr (this.mem_iff.mp hx)) (fun x hx => this.mem_iff.mpr (hp.mem_iff.mp hx))
/-- **more than 48 that are reached: the group has more than 48** -/
theorem group_more {n : Nat} {gens l : List Tab} (hn : l.Nodup) (hr : ∀ p ∈ l, Reach n gens p) (h48 : 48 < l.length) : 48 < (group n gens).length := by
  obtain ⟨w1, w2, w3, w4⟩ := whole_spec n gens
  rw [(group_spec n gens).2.length_eq]
  rcases w4 with h | h
  · exact h
  · have := nodup_sub hn fun p hp => reach_in w3 h (hr p hp)
    omega
/-- what a group of at most 48 is -/
theorem group_closed {n : Nat} {gens : List Tab} (h : (group n gens).length ≤ 48) : (group n gens).Nodup ∧ ident n ∈ group n gens ∧ (∀ p ∈ group n gens, Reach n gens p) ∧ (∀ p ∈ group n gens, ∀ g ∈ gens, then_ n p g ∈ group n gens) := by
  obtain ⟨w1, w2, w3, w4⟩ := whole_spec n gens
  have hp := (group_spec n gens).2
  have hl : (whole n gens).length ≤ 48 := by rw [← hp.length_eq]; exact h
  refine ⟨hp.symm.nodup w1, hp.mem_iff.mpr w3, fun p h => w2 p (hp.mem_iff.mp h), fun p h g hg => hp.mem_iff.mpr ?_⟩
  rcases w4 with h' | h'
  · omega
  · exact h' p (hp.mem_iff.mp h) g hg
end GC
namespace LA
open Wp04
/-! tables at points -/
theorem monos21 : monos 2 1 = [[1, 0], [0, 1]] := by decide
theorem monos31 : monos 3 1 = [[1, 0, 0], [0, 1, 0], [0, 0, 1]] := by decide
theorem ap2 (a b c e : Int) (x y : Rat) : ap 2 [a, b, c, e] [x, y] = [(a : Rat) * x + b * y, c * x + e * y] := by
  simp [ap, ev, monos21, unknown, at_, List.range_succ, mev]
  constructor <;> grind
theorem ap3 (a b c d e f g h i : Int) (x y z : Rat) : ap 3 [a, b, c, d, e, f, g, h, i] [x, y, z] = [(a : Rat) * x + b * y + c * z, d * x + e * y + f * z, g * x + h * y + i * z] := by
  simp [ap, ev, monos31, unknown, at_, List.range_succ, mev]
  refine ⟨?_, ?_, ?_⟩ <;> grind
theorem then2 (a b c e a' b' c' e' : Int) : then_ 2 [a, b, c, e] [a', b', c', e'] = [a' * a + b' * c, a' * b + b' * e, c' * a + e' * c, c' * b + e' * e] := by
  simp [then_, at_, List.range_succ, isum]
theorem then3 (a b c d e f g h i a' b' c' d' e' f' g' h' i' : Int) : then_ 3 [a, b, c, d, e, f, g, h, i] [a', b', c', d', e', f', g', h', i'] =
    [a' * a + b' * d + c' * g, a' * b + b' * e + c' * h, a' * c + b' * f + c' * i, d' * a + e' * d + f' * g, d' * b + e' * e + f' * h, d' * c + e' * f + f' * i, g' * a + h' * d + i' * g, g' * b + h' * e + i' * h, g' * c + h' * f + i' * i] := by
  simp [then_, at_, List.range_succ, isum]
theorem four {t : List Int} (h : t.length = 2 * 2) : ∃ a b c d, t = [a, b, c, d] := by
  match t, h with
  | [a, b, c, d], _ => exact ⟨a, b, c, d, rfl⟩
theorem nine {t : List Int} (h : t.length = 3 * 3) : ∃ a b c d e f g h i, t = [a, b, c, d, e, f, g, h, i] := by
  match t, h with
  | [a, b, c, d, e, f, g, h, i], _ => exact ⟨a, b, c, d, e, f, g, h, i, rfl⟩
theorem len_ap (n : Nat) (t : Tab) (x : List Rat) : (ap n t x).length = n := by simp [ap]
theorem ap_then {n : Nat} (hn : n = 2 ∨ n = 3) {t u : Tab} (ht : t.length = n * n) (hu : u.length = n * n) {x : List Rat} (hx : x.length = n) : ap n (then_ n t u) x = ap n u (ap n t x) := by
  rcases hn with rfl | rfl
  · obtain ⟨a, b, c, d, rfl⟩ := four ht
    obtain ⟨a', b', c', d', rfl⟩ := four hu
    match x, hx with
    | [x, y], _ =>
      rw [then2, ap2, ap2, ap2]
      simp only [Rat.intCast_add, Rat.intCast_mul, List.cons.injEq, and_true]
      constructor <;> grind
  · obtain ⟨a, b, c, d, e, f, g, h, i, rfl⟩ := nine ht
    obtain ⟨a', b', c', d', e', f', g', h', i', rfl⟩ := nine hu
    match x, hx with
    | [x, y, z], _ =>
      rw [then3, ap3, ap3, ap3]
      simp only [Rat.intCast_add, Rat.intCast_mul, List.cons.injEq, and_true]
      refine ⟨?_, ?_, ?_⟩ <;> grind
theorem then_assoc {n : Nat} (hn : n = 2 ∨ n = 3) {t u v : Tab} (ht : t.length = n * n) (hu : u.length = n * n) (hv : v.length = n * n) : then_ n (then_ n t u) v = then_ n t (then_ n u v) := by
  rcases hn with rfl | rfl
  · obtain ⟨a, b, c, d, rfl⟩ := four ht
    obtain ⟨a', b', c', d', rfl⟩ := four hu
    obtain ⟨a2, b2, c2, d2, rfl⟩ := four hv
    simp only [then2, List.cons.injEq, and_true]
    refine ⟨?_, ?_, ?_, ?_⟩ <;> grind
  · obtain ⟨a, b, c, d, e, f, g, h, i, rfl⟩ := nine ht
    obtain ⟨a', b', c', d', e', f', g', h', i', rfl⟩ := nine hu
    obtain ⟨a2, b2, c2, d2, e2, f2, g2, h2, i2, rfl⟩ := nine hv
    simp only [then3, List.cons.injEq, and_true]
    refine ⟨?_, ?_, ?_, ?_, ?_, ?_, ?_, ?_, ?_⟩ <;> grind
theorem id_then {n : Nat} (hn : n = 2 ∨ n = 3) {t : Tab} (ht : t.length = n * n) : then_ n (ident n) t = t := by
  rcases hn with rfl | rfl
  · obtain ⟨a, b, c, d, rfl⟩ := four ht
    have : ident 2 = [1, 0, 0, 1] := by decide
    rw [this, then2]; simp
  · obtain ⟨a, b, c, d, e, f, g, h, i, rfl⟩ := nine ht
    have : ident 3 = [1, 0, 0, 0, 1, 0, 0, 0, 1] := by decide
    rw [this, then3]; simp
theorem then_id {n : Nat} (hn : n = 2 ∨ n = 3) {t : Tab} (ht : t.length = n * n) : then_ n t (ident n) = t := by
  rcases hn with rfl | rfl
  · obtain ⟨a, b, c, d, rfl⟩ := four ht
    have : ident 2 = [1, 0, 0, 1] := by decide
    rw [this, then2]; simp
  · obtain ⟨a, b, c, d, e, f, g, h, i, rfl⟩ := nine ht
    have : ident 3 = [1, 0, 0, 0, 1, 0, 0, 0, 1] := by decide
    rw [this, then3]; simp
/-- a row times a table of three rows, by the table's cofactors -/
theorem cram (a b c d e f g h i p q r X Y Z : Int) (h1 : p * a + q * d + r * g = X) (h2 : p * b + q * e + r * h = Y) (h3 : p * c + q * f + r * i = Z) :
    p * (a * (e * i - f * h) - b * (d * i - f * g) + c * (d * h - e * g)) = X * (e * i - f * h) - Y * (d * i - f * g) + Z * (d * h - e * g) ∧
    q * (a * (e * i - f * h) - b * (d * i - f * g) + c * (d * h - e * g)) = -X * (b * i - c * h) + Y * (a * i - c * g) - Z * (a * h - b * g) ∧
    r * (a * (e * i - f * h) - b * (d * i - f * g) + c * (d * h - e * g)) = X * (b * f - c * e) - Y * (a * f - c * d) + Z * (a * e - b * d) := by
  subst h1 h2 h3
  refine ⟨?_, ?_, ?_⟩ <;> grind
theorem det3 (a b c d e f g h i a' b' c' d' e' f' g' h' i' : Int) : (a * (e * i - f * h) - b * (d * i - f * g) + c * (d * h - e * g)) * (a' * (e' * i' - f' * h') - b' * (d' * i' - f' * g') + c' * (d' * h' - e' * g'))
    = (a' * a + b' * d + c' * g) * ((d' * b + e' * e + f' * h) * (g' * c + h' * f + i' * i) - (d' * c + e' * f + f' * i) * (g' * b + h' * e + i' * h))
    - (a' * b + b' * e + c' * h) * ((d' * a + e' * d + f' * g) * (g' * c + h' * f + i' * i) - (d' * c + e' * f + f' * i) * (g' * a + h' * d + i' * g))
    + (a' * c + b' * f + c' * i) * ((d' * a + e' * d + f' * g) * (g' * b + h' * e + i' * h) - (d' * b + e' * e + f' * h) * (g' * a + h' * d + i' * g)) := by grind
theorem can3 {D x y z u v w m : Int} (hD0 : D ≠ 0) (h : x * (u * D) + y * (v * D) + z * (w * D) = m * D) : x * u + y * v + z * w = m := Int.eq_of_mul_eq_mul_right hD0 (by rw [← h]; grind)
theorem undo3 {a b c d e f g h i a' b' c' d' e' f' g' h' i' : Int} (h1 : a' * a + b' * d + c' * g = 1) (h2 : a' * b + b' * e + c' * h = 0) (h3 : a' * c + b' * f + c' * i = 0)
    (h4 : d' * a + e' * d + f' * g = 0) (h5 : d' * b + e' * e + f' * h = 1) (h6 : d' * c + e' * f + f' * i = 0) (h7 : g' * a + h' * d + i' * g = 0) (h8 : g' * b + h' * e + i' * h = 0) (h9 : g' * c + h' * f + i' * i = 1) :
    a * a' + b * d' + c * g' = 1 ∧ a * b' + b * e' + c * h' = 0 ∧ a * c' + b * f' + c * i' = 0 ∧ d * a' + e * d' + f * g' = 0 ∧ d * b' + e * e' + f * h' = 1 ∧ d * c' + e * f' + f * i' = 0 ∧
    g * a' + h * d' + i * g' = 0 ∧ g * b' + h * e' + i * h' = 0 ∧ g * c' + h * f' + i * i' = 1 := by
  have hD := det3 a b c d e f g h i a' b' c' d' e' f' g' h' i'
  rw [h1, h2, h3, h4, h5, h6, h7, h8, h9] at hD
  obtain ⟨k1, k2, k3⟩ := cram a b c d e f g h i a' b' c' _ _ _ h1 h2 h3
  obtain ⟨k4, k5, k6⟩ := cram a b c d e f g h i d' e' f' _ _ _ h4 h5 h6
  obtain ⟨k7, k8, k9⟩ := cram a b c d e f g h i g' h' i' _ _ _ h7 h8 h9
  clear h1 h2 h3 h4 h5 h6 h7 h8 h9
  obtain ⟨D, hd0⟩ : ∃ D, D = a * (e * i - f * h) - b * (d * i - f * g) + c * (d * h - e * g) := ⟨_, rfl⟩
  rw [← hd0] at hD k1 k2 k3 k4 k5 k6 k7 k8 k9
  have hD0 : D ≠ 0 := by intro z; rw [z] at hD; simp at hD
  refine ⟨can3 hD0 ?_, can3 hD0 ?_, can3 hD0 ?_, can3 hD0 ?_, can3 hD0 ?_, can3 hD0 ?_, can3 hD0 ?_, can3 hD0 ?_, can3 hD0 ?_⟩
  · rw [k1, k4, k7, hd0]; clear k1 k2 k3 k4 k5 k6 k7 k8 k9 hD hD0 hd0; grind
  · rw [k2, k5, k8]; clear k1 k2 k3 k4 k5 k6 k7 k8 k9 hD hD0 hd0; grind
  · rw [k3, k6, k9]; clear k1 k2 k3 k4 k5 k6 k7 k8 k9 hD hD0 hd0; grind
  · rw [k1, k4, k7]; clear k1 k2 k3 k4 k5 k6 k7 k8 k9 hD hD0 hd0; grind
  · rw [k2, k5, k8, hd0]; clear k1 k2 k3 k4 k5 k6 k7 k8 k9 hD hD0 hd0; grind
  · rw [k3, k6, k9]; clear k1 k2 k3 k4 k5 k6 k7 k8 k9 hD hD0 hd0; grind
  · rw [k1, k4, k7]; clear k1 k2 k3 k4 k5 k6 k7 k8 k9 hD hD0 hd0; grind
  · rw [k2, k5, k8]; clear k1 k2 k3 k4 k5 k6 k7 k8 k9 hD hD0 hd0; grind
  · rw [k3, k6, k9, hd0]; clear k1 k2 k3 k4 k5 k6 k7 k8 k9 hD hD0 hd0; grind
/-- what undoes from one side undoes from the other -/
theorem undo_swap {n : Nat} (hn : n = 2 ∨ n = 3) {t u : Tab} (ht : t.length = n * n) (hu : u.length = n * n) (hh : then_ n t u = ident n) : then_ n u t = ident n := by
  rcases hn with rfl | rfl
  · obtain ⟨a, b, c, d, rfl⟩ := four ht
    obtain ⟨a', b', c', d', rfl⟩ := four hu
    have : ident 2 = [1, 0, 0, 1] := by decide
    rw [this, then2] at hh
    rw [this, then2]
    simp only [List.cons.injEq, and_true] at hh ⊢
    obtain ⟨h1, h2, h3, h4⟩ := hh
    have hdet : (a * d - b * c) * (a' * d' - b' * c') = 1 := by grind
    refine ⟨?_, ?_, ?_, ?_⟩ <;> grind
  · obtain ⟨a, b, c, d, e, f, g, h, i, rfl⟩ := nine ht
    obtain ⟨a', b', c', d', e', f', g', h', i', rfl⟩ := nine hu
    have : ident 3 = [1, 0, 0, 0, 1, 0, 0, 0, 1] := by decide
    rw [this, then3] at hh
    rw [this, then3]
    simp only [List.cons.injEq, and_true] at hh ⊢
    obtain ⟨h1, h2, h3, h4, h5, h6, h7, h8, h9⟩ := hh
    exact undo3 h1 h2 h3 h4 h5 h6 h7 h8 h9
theorem moved_then {n d : Nat} (hn : n = 2 ∨ n = 3) {t u : Tab} (ht : t.length = n * n) (hu : u.length = n * n) (f : List Rat) : moved n d t (moved n d u f) = moved n d (then_ n t u) f := by
  refine ev_inj (len_moved ..) (len_moved ..) fun x hx => ?_
  rw [ev_moved, ev_moved, ev_moved, ap_then hn ht hu hx]
/-! means -/
theorem mean_fold (n d : Nat) (f x : List Rat) : ∀ (g : List Tab) (s : Poly), s.length = (monos n d).length →
    (g.foldl (fun (s : Poly) (t : Tab) => plus s (moved n d t f)) s).length = (monos n d).length ∧
    ev n d (g.foldl (fun (s : Poly) (t : Tab) => plus s (moved n d t f)) s) x = ev n d s x + (g.map fun t => ev n d f (ap n t x)).sum
  | [], s, h => ⟨h, by simp; grind⟩
  | t :: g, s, h => by
    have hs : s.length = (moved n d t f).length := by rw [len_moved, h]
    obtain ⟨i1, i2⟩ := mean_fold n d f x g (plus s (moved n d t f)) (by rw [len_plus _ _ hs, h])
    refine ⟨i1, ?_⟩
    rw [List.foldl_cons, i2, ev_plus _ _ _ hs, ev_moved, List.map_cons, List.sum_cons]
    grind
theorem len_mean (n d : Nat) (g : List Tab) (f : Poly) : (mean n d g f).length = (monos n d).length := by
  unfold mean
  rw [len_scale]
  exact (mean_fold n d f [] g (zeros n d) (by simp [zeros])).1
theorem ev_mean (n d : Nat) (g : List Tab) (f x : List Rat) : ev n d (mean n d g f) x = (1 / (g.length : Rat)) * (g.map fun t => ev n d f (ap n t x)).sum := by
  unfold mean
  rw [ev_scale, show ((monos n d).map fun (_ : List Nat) => (0 : Rat)) = zeros n d from rfl, (mean_fold n d f x g (zeros n d) (by simp [zeros])).2, ev_zeros]
  grind
end LA
namespace LA
open Wp04 GC
/-- tables of the right size, each of which can be undone -/
structure GensOk (n : Nat) (gens : List Tab) : Prop where
  hn : n = 2 ∨ n = 3
  len : ∀ r ∈ gens, r.length = n * n
  und : ∀ r ∈ gens, ∃ q : Tab, q.length = n * n ∧ then_ n q r = ident n
theorem perm_sum {α : Type} {l k : List α} (h : l.Perm k) (f : α → Rat) : (l.map f).sum = (k.map f).sum := by
  induction h with
  | nil => rfl
  | cons a _ ih => simp [ih]
  | swap a b l => simp; grind
  | trans _ _ i1 i2 => rw [i1, i2]
section
variable {n : Nat} {gens : List Tab}
theorem reach_undo (G : GensOk n gens) {p : Tab} (h : Reach n gens p) : ∃ q : Tab, q.length = n * n ∧ then_ n q p = ident n := by
  induction h with
  | id => exact ⟨ident n, len_ident n, id_then G.hn (len_ident n)⟩
  | @step p s hp hs ih =>
    obtain ⟨p', l1, e1⟩ := ih
    obtain ⟨s', l2, e2⟩ := G.und s hs
    have lp := len_reach hp
    have ls := G.len s hs
    refine ⟨then_ n s' p', len_then .., ?_⟩
    rw [then_assoc G.hn l2 l1 (len_then ..), ← then_assoc G.hn l1 lp ls, e1, id_then G.hn ls, e2]
theorem group_mul (G : GensOk n gens) (h48 : (group n gens).length ≤ 48) {p q : Tab} (hp : p ∈ group n gens) (hq : q ∈ group n gens) : then_ n p q ∈ group n gens := by
  obtain ⟨_, _, hr, hc⟩ := group_closed h48
  have hq' := hr q hq
  have lp := len_reach (hr p hp)
  clear hq
  induction hq' with
  | id => rw [then_id G.hn lp]; exact hp
  | @step q s hq hs ih =>
    rw [← then_assoc G.hn lp (len_reach hq) (G.len s hs)]
    exact hc _ ih s hs
theorem group_turn (G : GensOk n gens) (h48 : (group n gens).length ≤ 48) {t : Tab} (ht : t ∈ group n gens) : ((group n gens).map (then_ n t)).Perm (group n gens) := by
  obtain ⟨hnd, _, hr, _⟩ := group_closed h48
  obtain ⟨t', l1, e1⟩ := reach_undo G (hr t ht)
  have lt := len_reach (hr t ht)
  have inj : ∀ u ∈ group n gens, ∀ v ∈ group n gens, then_ n t u = then_ n t v → u = v := by
    intro u hu v hv e
    have := congrArg (then_ n t') e
    rw [← then_assoc G.hn l1 lt (len_reach (hr u hu)), ← then_assoc G.hn l1 lt (len_reach (hr v hv)), e1, id_then G.hn (len_reach (hr u hu)), id_then G.hn (len_reach (hr v hv))] at this
    exact this
  have nd : ((group n gens).map (then_ n t)).Nodup := by
    rw [List.Nodup, List.pairwise_map]
    exact List.Pairwise.imp_of_mem (fun hu hv h e => h (inj _ hu _ hv e)) hnd
  have sub : ∀ x ∈ (group n gens).map (then_ n t), x ∈ group n gens := by
    intro x hx
    obtain ⟨u, hu, rfl⟩ := List.mem_map.mp hx
    exact group_mul G h48 ht hu
  refine (List.perm_ext_iff_of_nodup nd hnd).mpr fun x => ⟨sub x, fun hx => ?_⟩
  -- a part as long as the whole
  false_or_by_contra
  rename_i hno
  have := nodup_sub (l := x :: (group n gens).map (then_ n t)) (k := group n gens) (List.nodup_cons.mpr ⟨hno, nd⟩) (fun y hy => by
    rcases List.mem_cons.mp hy with e | hy
    · rw [e]; exact hx
    · exact sub y hy)
  simp at this
  omega
theorem moved_mean (G : GensOk n gens) (h48 : (group n gens).length ≤ 48) {t : Tab} (ht : t ∈ group n gens) (d : Nat) (f : List Rat) : moved n d t (mean n d (group n gens) f) = mean n d (group n gens) f := by
  obtain ⟨_, _, hr, _⟩ := group_closed h48
  refine ev_inj (len_moved ..) (len_mean ..) fun x hx => ?_
  rw [ev_moved, ev_mean, ev_mean]
  congr 1
  rw [← perm_sum (group_turn G h48 ht) (fun t => ev n d f (ap n t x)), List.map_map]
  congr 1
  apply List.map_congr_left
  intro u hu
  show _ = ev n d f (ap n (then_ n t u) x)
  rw [ap_then G.hn (len_reach (hr t ht)) (len_reach (hr u hu)) hx]
theorem len_cast {α : Type} (l : List α) (c : Rat) : (l.map fun _ => c).sum = (l.length : Rat) * c := by
  induction l with
  | nil => simp [Rat.zero_mul]
  | cons a l ih =>
    simp only [List.map_cons, List.sum_cons, ih, List.length_cons]
    have : ((l.length + 1 : Nat) : Rat) = (l.length : Rat) + 1 := by simp
    rw [this]; grind
theorem group_pos (h48 : (group n gens).length ≤ 48) : ((group n gens).length : Rat) ≠ 0 := by
  obtain ⟨_, hi, _, _⟩ := group_closed h48
  have : 0 < (group n gens).length := List.length_pos_of_mem hi
  intro z
  have : (group n gens).length = 0 := by exact_mod_cast z
  omega
theorem mean_of_fixed (h48 : (group n gens).length ≤ 48) {d : Nat} {f : List Rat} (hf : f.length = (monos n d).length) (h : ∀ t ∈ group n gens, moved n d t f = f) : mean n d (group n gens) f = f := by
  refine ev_inj (len_mean ..) hf fun x hx => ?_
  rw [ev_mean]
  have : (group n gens).map (fun t => ev n d f (ap n t x)) = (group n gens).map fun _ => ev n d f x := by
    apply List.map_congr_left
    intro t ht
    rw [← ev_moved, h t ht]
  rw [this, len_cast]
  have := group_pos h48
  grind
/-- **it stays: by its mean, and by every table** -/
theorem stays_iff (G : GensOk n gens) (h48 : (group n gens).length ≤ 48) {d : Nat} {f : List Rat} (hf : f.length = (monos n d).length) : mean n d (group n gens) f = f ↔ ∀ t ∈ group n gens, moved n d t f = f := by
  refine ⟨fun h t ht => ?_, mean_of_fixed h48 hf⟩
  have := moved_mean G h48 ht d f
  rw [h] at this
  exact this
theorem mean_mean (G : GensOk n gens) (h48 : (group n gens).length ≤ 48) (d : Nat) (f : List Rat) : mean n d (group n gens) (mean n d (group n gens) f) = mean n d (group n gens) f :=
  mean_of_fixed h48 (len_mean ..) fun _ ht => moved_mean G h48 ht d f
end
/-! by places -/
def mk (n d k : Nat) : List Nat := (monos n d).getD k []
theorem zip_ix (F : List Nat → Rat) : ∀ (M : List (List Nat)) (f : List Rat), ((M.zip f).map fun p => p.2 * F p.1).sum = ((List.range M.length).map fun k => fn f k * F (M.getD k [])).sum
  | [], f => by simp
  | m :: M, [] => by
    rw [sm_zero (List.range (m :: M).length)]
    · simp
    · intro k _; simp [fn, Rat.zero_mul]
  | m :: M, c :: f => by
    have ih := zip_ix F M f
    simp only [List.zip_cons_cons, List.map_cons, List.sum_cons, ih, List.length_cons, List.range_succ_eq_map, List.map_map]
    rfl
theorem ev_ix (n d : Nat) (f x : List Rat) : ev n d f x = ((List.range (monos n d).length).map fun k => fn f k * mev (mk n d k) x).sum := zip_ix (fun m => mev m x) (monos n d) f
def unit (N i : Nat) : List Rat := (List.range N).map fun j => if i = j then 1 else 0
theorem fn_unit {N i k : Nat} (hk : k < N) : fn (unit N i) k = if i = k then 1 else 0 := by
  simp [fn, unit, List.getD_eq_getElem?_getD, hk]
theorem fn_range {N k : Nat} (c : Nat → Rat) (hk : k < N) : fn ((List.range N).map c) k = c k := by
  simp [fn, List.getD_eq_getElem?_getD, hk]
theorem ev_unit {n d i : Nat} (hi : i < (monos n d).length) (x : List Rat) : ev n d (unit (monos n d).length i) x = mev (mk n d i) x := by
  rw [ev_ix]
  have : ((List.range (monos n d).length).map fun k => fn (unit (monos n d).length i) k * mev (mk n d k) x) = (List.range (monos n d).length).map fun k => if i = k then mev (mk n d k) x else 0 := by
    apply List.map_congr_left
    intro k hk
    rw [fn_unit (by simpa using hk)]
    split <;> grind
  rw [this, sum_pick (fun k => mev (mk n d k) x) i _ List.nodup_range (by simpa using hi)]
theorem mean_lin (n d : Nat) (g : List Tab) {f : List Rat} (hf : f.length = (monos n d).length) (k : Nat) : fn (mean n d g f) k = ((List.range (monos n d).length).map fun i => fn f i * fn (mean n d g (unit (monos n d).length i)) k).sum := by
  have key : mean n d g f = (List.range (monos n d).length).map fun k => ((List.range (monos n d).length).map fun i => fn f i * fn (mean n d g (unit (monos n d).length i)) k).sum := by
    refine ev_inj (len_mean ..) (by simp) fun x hx => ?_
    rw [ev_mean, ev_ix n d (List.map _ _)]
    have e1 : ((List.range (monos n d).length).map fun k => fn ((List.range (monos n d).length).map fun k => ((List.range (monos n d).length).map fun i => fn f i * fn (mean n d g (unit (monos n d).length i)) k).sum) k * mev (mk n d k) x)
        = (List.range (monos n d).length).map fun k => ((List.range (monos n d).length).map fun i => fn f i * (fn (mean n d g (unit (monos n d).length i)) k * mev (mk n d k) x)).sum := by
      apply List.map_congr_left
      intro k hk
      rw [fn_range _ (by simpa using hk), ← sum_mul_right]
      congr 1
      apply List.map_congr_left
      intro i _
      grind
    rw [e1, sum_swap]
    have e2 : ((List.range (monos n d).length).map fun i => ((List.range (monos n d).length).map fun k => fn f i * (fn (mean n d g (unit (monos n d).length i)) k * mev (mk n d k) x)).sum)
        = (List.range (monos n d).length).map fun i => (1 / (g.length : Rat)) * (g.map fun t => fn f i * mev (mk n d i) (ap n t x)).sum := by
      apply List.map_congr_left
      intro i hi
      rw [sm_mul, ← ev_ix, ev_mean, sm_mul g]
      have : (g.map fun t => ev n d (unit (monos n d).length i) (ap n t x)) = g.map fun t => mev (mk n d i) (ap n t x) := by
        apply List.map_congr_left
        intro t _
        exact ev_unit (by simpa using hi) _
      rw [this]
      grind
    rw [e2, sm_mul, sum_swap]
    congr 1
    congr 1
    apply List.map_congr_left
    intro t _
    rw [ev_ix]
  have hlen := len_mean n d g f
  by_cases hk : k < (monos n d).length
  · have := congrArg (fun q => fn q k) key
    simp only [fn_range _ hk] at this
    exact this
  · rw [fn_ge (by omega), sm_zero]
    intro i _
    rw [fn_ge (a := mean n d g _) (by rw [len_mean]; omega)]
    grind
theorem stay_eq (n d : Nat) (g : List Tab) : stay n d g = basis ((List.range (monos n d).length).map fun i => mean n d g (unit (monos n d).length i)) := by
  unfold stay units
  rw [List.map_map]
  rfl
section
variable {n : Nat} {gens : List Tab}
/-- what those that stay make is its own mean -/
theorem span_fixed (G : GensOk n gens) (h48 : (group n gens).length ≤ 48) {d : Nat} {v : Nat → Rat} (hv : Sp ((List.range (monos n d).length).map fun i => mean n d (group n gens) (unit (monos n d).length i)) v) (k : Nat) :
    v k = ((List.range (monos n d).length).map fun i => v i * fn (mean n d (group n gens) (unit (monos n d).length i)) k).sum := by
  induction hv with
  | zero =>
    rw [sm_zero]
    intro i _
    grind
  | @step r v b _ hb ih =>
    obtain ⟨j, hj, rfl⟩ := List.mem_map.mp hb
    have e := mean_lin n d (group n gens) (f := mean n d (group n gens) (unit (monos n d).length j)) (len_mean ..) k
    rw [mean_mean G h48] at e
    have e2 : (fun i => (v i + r * fn (mean n d (group n gens) (unit (monos n d).length j)) i) * fn (mean n d (group n gens) (unit (monos n d).length i)) k) = fun i => v i * fn (mean n d (group n gens) (unit (monos n d).length i)) k + r * (fn (mean n d (group n gens) (unit (monos n d).length j)) i * fn (mean n d (group n gens) (unit (monos n d).length i)) k) := by
      funext i; grind
    simp only [e2]
    rw [sm_add, sm_mul, ← ih, ← e]
theorem stay_facts (n d : Nat) (g : List Tab) : Good (monos n d).length (stay n d g) ∧ (stay n d g).Pairwise (fun a b => first a < first b) ∧
    (∀ b ∈ stay n d g, Sp ((List.range (monos n d).length).map fun i => mean n d g (unit (monos n d).length i)) (fn b)) ∧
    (∀ b ∈ ((List.range (monos n d).length).map fun i => mean n d g (unit (monos n d).length i)), Sp (stay n d g) (fn b)) := by
  rw [stay_eq]
  refine basis_good _ fun b hb => ?_
  obtain ⟨i, _, rfl⟩ := List.mem_map.mp hb
  exact len_mean ..
/-- **the sum on the diagonal of the means is how many stay** -/
theorem trace_stay (G : GensOk n gens) (h48 : (group n gens).length ≤ 48) (d : Nat) :
    ((List.range (monos n d).length).map fun i => fn (mean n d (group n gens) (unit (monos n d).length i)) i).sum = ((stay n d (group n gens)).length : Rat) := by
  obtain ⟨g, _, s1, s2⟩ := stay_facts n d (group n gens)
  generalize stay n d (group n gens) = R at g s1 s2
  have e1 : ((List.range (monos n d).length).map fun i => fn (mean n d (group n gens) (unit (monos n d).length i)) i)
      = (List.range (monos n d).length).map fun i => (R.map fun b => fn (mean n d (group n gens) (unit (monos n d).length i)) (first b) * fn b i).sum := by
    apply List.map_congr_left
    intro i hi
    exact g.red.coords (s2 _ (List.mem_map.mpr ⟨i, hi, rfl⟩)) i
  rw [e1, sum_swap]
  have e2 : (R.map fun b => ((List.range (monos n d).length).map fun i => fn (mean n d (group n gens) (unit (monos n d).length i)) (first b) * fn b i).sum) = R.map fun _ => (1 : Rat) := by
    apply List.map_congr_left
    intro b hb
    have := span_fixed G h48 (s1 b hb) (first b)
    rw [g.red.one b hb] at this
    rw [this]
    congr 1
    apply List.map_congr_left
    intro i _
    grind
  rw [e2, len_cast]
  grind
end
theorem fn_fold (n d : Nat) (f : List Rat) (k : Nat) : ∀ (g : List Tab) (s : Poly), s.length = (monos n d).length →
    fn (g.foldl (fun (s : Poly) (t : Tab) => plus s (moved n d t f)) s) k = fn s k + (g.map fun t => fn (moved n d t f) k).sum
  | [], s, _ => by simp; grind
  | t :: g, s, h => by
    have hs : s.length = (moved n d t f).length := by rw [len_moved, h]
    rw [List.foldl_cons, fn_fold n d f k g _ (by rw [len_plus _ _ hs, h]), fn_plus _ _ hs, List.map_cons, List.sum_cons]
    grind
theorem fn_zeros (n d k : Nat) : fn (zeros n d) k = 0 := by
  simp only [fn, zeros, List.getD_eq_getElem?_getD, List.getElem?_map]
  cases (monos n d)[k]? <;> rfl
theorem fn_mean (n d : Nat) (g : List Tab) (f : List Rat) (k : Nat) : fn (mean n d g f) k = (1 / (g.length : Rat)) * (g.map fun t => fn (moved n d t f) k).sum := by
  unfold mean
  rw [fn_scale, show ((monos n d).map fun (_ : List Nat) => (0 : Rat)) = zeros n d from rfl, fn_fold n d f k g (zeros n d) (by simp [zeros]), fn_zeros]
  grind
/-- the sum on the diagonal of what a table does -/
def tr (n d : Nat) (t : Tab) : Rat := ((List.range (monos n d).length).map fun i => fn (moved n d t (unit (monos n d).length i)) i).sum
theorem stay_count {n : Nat} {gens : List Tab} (G : GensOk n gens) (h48 : (group n gens).length ≤ 48) (d : Nat) : ((group n gens).map (tr n d)).sum = ((group n gens).length : Rat) * ((stay n d (group n gens)).length : Rat) := by
  have e := trace_stay G h48 d
  have : ((List.range (monos n d).length).map fun i => fn (mean n d (group n gens) (unit (monos n d).length i)) i)
      = (List.range (monos n d).length).map fun i => (1 / ((group n gens).length : Rat)) * ((group n gens).map fun t => fn (moved n d t (unit (monos n d).length i)) i).sum := by
    apply List.map_congr_left
    intro i _
    exact fn_mean ..
  rw [this, sm_mul, sum_swap] at e
  have hp := group_pos h48
  show ((group n gens).map fun t => ((List.range (monos n d).length).map fun i => fn (moved n d t (unit (monos n d).length i)) i).sum).sum = _
  rw [← e]
  grind
end LA
namespace LA
open Wp04 GC
/-! products over any numbers: the same rule for rationals and for polynomials in a table's entries -/
structure Ops (R : Type) where
  z : R
  o : R
  add : R → R → R
  mul : R → R → R
def gin {R : Type} (O : Ops R) (m : List Nat) (p : List Nat × R) (Y : List (List Nat × R)) : R := Y.foldr (fun q acc => if addM p.1 q.1 = m then O.add (O.mul p.2 q.2) acc else acc) O.z
def gtimes {R : Type} (O : Ops R) (n d e : Nat) (a b : List R) : List R :=
  (monos n (d + e)).map fun m => ((monos n d).zip a).foldr (fun p acc => O.add (gin O m p ((monos n e).zip b)) acc) O.z
def gpower {R : Type} (O : Ops R) (n : Nat) (l : List R) : Nat → List R
  | 0 => [O.o]
  | k + 1 => gtimes O n k 1 (gpower O n l k) l
def gmono {R : Type} (O : Ops R) (n : Nat) (rows : Nat → List R) (m : List Nat) : Nat × List R := m.zipIdx.foldl (fun (a : Nat × List R) (x : Nat × Nat) => (a.1 + x.1, gtimes O n a.1 x.1 a.2 (gpower O n (rows x.2) x.1))) (0, [O.o])
def gtr {R : Type} (O : Ops R) (n d : Nat) (rows : Nat → List R) : R := (monos n d).zipIdx.foldr (fun m acc => O.add ((gmono O n rows m.1).2.getD m.2 O.z) acc) O.z
structure Hom {R S : Type} (O : Ops R) (U : Ops S) (φ : R → S) : Prop where
  z : φ O.z = U.z
  o : φ O.o = U.o
  add : ∀ a b, φ (O.add a b) = U.add (φ a) (φ b)
  mul : ∀ a b, φ (O.mul a b) = U.mul (φ a) (φ b)
section
variable {R S : Type} {O : Ops R} {U : Ops S} {φ : R → S}
theorem hom_gin (h : Hom O U φ) (m : List Nat) (p : List Nat × R) : ∀ Y : List (List Nat × R), φ (gin O m p Y) = gin U m (p.1, φ p.2) (Y.map fun q => (q.1, φ q.2))
  | [] => h.z
  | q :: Y => by
    have ih := hom_gin h m p Y
    unfold gin at ih ⊢
    simp only [List.foldr_cons, List.map_cons]
    split
    · rw [h.add, h.mul, ih]
    · exact ih
theorem zip_map2 {α : Type} (l : List α) (a : List R) : l.zip (a.map φ) = (l.zip a).map fun q => (q.1, φ q.2) := by
  rw [List.zip_map_right]
  rfl
theorem hom_gtimes (h : Hom O U φ) (n d e : Nat) (a b : List R) : (gtimes O n d e a b).map φ = gtimes U n d e (a.map φ) (b.map φ) := by
  unfold gtimes
  rw [List.map_map]
  apply List.map_congr_left
  intro m _
  show φ _ = _
  rw [zip_map2, zip_map2]
  generalize (monos n d).zip a = X
  induction X with
  | nil => exact h.z
  | cons p X ih =>
    simp only [List.foldr_cons, List.map_cons]
    rw [h.add, ih, hom_gin h]
theorem hom_gpower (h : Hom O U φ) (n : Nat) (l : List R) : ∀ k, (gpower O n l k).map φ = gpower U n (l.map φ) k
  | 0 => by simp [gpower, h.o]
  | k + 1 => by rw [gpower, gpower, hom_gtimes h, hom_gpower h n l k]
theorem hom_gmono (h : Hom O U φ) (n : Nat) (rows : Nat → List R) (m : List Nat) : (gmono O n rows m).2.map φ = (gmono U n (fun i => (rows i).map φ) m).2 := by
  unfold gmono
  have : ∀ (l : List (Nat × Nat)) (a : Nat × List R) (b : Nat × List S), a.1 = b.1 → a.2.map φ = b.2 →
      (l.foldl (fun (a : Nat × List R) (x : Nat × Nat) => (a.1 + x.1, gtimes O n a.1 x.1 a.2 (gpower O n (rows x.2) x.1))) a).2.map φ = (l.foldl (fun (a : Nat × List S) (x : Nat × Nat) => (a.1 + x.1, gtimes U n a.1 x.1 a.2 (gpower U n ((rows x.2).map φ) x.1))) b).2 := by
    intro l
    induction l with
    | nil => intro a b _ h2; exact h2
    | cons x l ih =>
      intro a b h1 h2
      simp only [List.foldl_cons]
      refine ih _ _ (by simp [h1]) ?_
      simp only
      rw [hom_gtimes h, hom_gpower h, h1, h2]
  exact this _ _ _ rfl (by simp [h.o])
theorem hom_gtr (h : Hom O U φ) (n d : Nat) (rows : Nat → List R) : φ (gtr O n d rows) = gtr U n d (fun i => (rows i).map φ) := by
  unfold gtr
  generalize (monos n d).zipIdx = M
  induction M with
  | nil => exact h.z
  | cons m M ih =>
    simp only [List.foldr_cons]
    rw [h.add, ih, ← hom_gmono h]
    congr 1
    simp only [List.getD_eq_getElem?_getD, List.getElem?_map]
    cases (gmono O n rows m.1).2[m.2]? with
    | none => exact h.z
    | some => rfl
end
/-! rationals -/
def OQ : Ops Rat := ⟨0, 1, (· + ·), (· * ·)⟩
theorem gin_Q (m : List Nat) (p : List Nat × Rat) (Y : List (List Nat × Rat)) : gin OQ m p Y = (Y.map fun q => if addM p.1 q.1 = m then p.2 * q.2 else 0).sum := by
  induction Y with
  | nil => rfl
  | cons q Y ih =>
    unfold gin at ih ⊢
    simp only [List.foldr_cons, List.map_cons, List.sum_cons, ih]
    split
    · rfl
    · grind
theorem gtimes_Q (n d e : Nat) (a b : List Rat) : gtimes OQ n d e a b = times n d e a b := by
  unfold gtimes times
  simp only
  apply List.map_congr_left
  intro m _
  rw [rsum_eq]
  generalize (monos n d).zip a = X
  induction X with
  | nil => rfl
  | cons p X ih =>
    simp only [List.foldr_cons, List.map_cons, List.sum_cons, ih]
    show gin OQ m p _ + _ = _
    rw [gin_Q]
    congr 1
    split
    · rename_i h0
      rw [sm_zero]
      intro q _
      rw [h0]
      split <;> grind
    · rw [rsum_eq]
      rfl
theorem gpower_Q (n : Nat) (l : List Rat) : ∀ k, gpower OQ n l k = power n l k
  | 0 => rfl
  | k + 1 => by rw [gpower, power, gtimes_Q, gpower_Q n l k]
theorem gmono_Q (n : Nat) (t : Tab) (m : List Nat) : gmono OQ n (unknown n t) m = monoMoved n t m := by
  unfold gmono monoMoved
  congr 1
  funext a x
  rw [gtimes_Q, gpower_Q]
theorem moved_unit {n d i : Nat} (t : Tab) (hi : i < (monos n d).length) : moved n d t (unit (monos n d).length i) = (monoMoved n t (mk n d i)).2 := by
  have hm : mk n d i ∈ monos n d := by
    unfold mk
    rw [List.getD_eq_getElem?_getD, List.getElem?_eq_getElem hi]
    exact List.getElem_mem hi
  refine ev_inj (len_moved ..) (ev_monoMoved hm []).1 fun x _ => ?_
  rw [ev_moved, ev_unit hi, (ev_monoMoved hm x).2]
theorem zipIdx_ix (F : List Nat → Nat → Rat) : ∀ (M : List (List Nat)) (j : Nat), (M.zipIdx j).foldr (fun m acc => F m.1 m.2 + acc) 0 = ((List.range M.length).map fun k => F (M.getD k []) (j + k)).sum
  | [], j => rfl
  | m :: M, j => by
    have ih := zipIdx_ix F M (j + 1)
    simp only [List.zipIdx_cons, List.foldr_cons, ih, List.length_cons, List.range_succ_eq_map, List.map_cons, List.sum_cons, List.map_map]
    congr 1
    congr 1
    apply List.map_congr_left
    intro k _
    show F _ (j + 1 + k) = F _ (j + (k + 1))
    congr 1
    omega
theorem tr_gtr (n d : Nat) (t : Tab) : tr n d t = gtr OQ n d (unknown n t) := by
  unfold gtr tr
  have := zipIdx_ix (fun m i => (gmono OQ n (unknown n t) m).2.getD i 0) (monos n d) 0
  show _ = (monos n d).zipIdx.foldr (fun m acc => (gmono OQ n (unknown n t) m.1).2.getD m.2 0 + acc) 0
  rw [this]
  congr 1
  apply List.map_congr_left
  intro i hi
  rw [gmono_Q, moved_unit t (by simpa using hi), Nat.zero_add]
  rfl
/-! polynomials in the entries -/
abbrev GP := Lean.Grind.CommRing.Poly
abbrev GX := Lean.Grind.CommRing.Context
def OP : Ops GP := ⟨.num 0, .num 1, Lean.Grind.CommRing.Poly.combine, Lean.Grind.CommRing.Poly.mul⟩
theorem hom_P (ctx : GX Rat) : Hom OP OQ (Lean.Grind.CommRing.Poly.denote ctx) where
  z := by show Lean.Grind.CommRing.Poly.denote ctx (.num 0) = 0; simp [Lean.Grind.CommRing.Poly.denote]
  o := by show Lean.Grind.CommRing.Poly.denote ctx (.num 1) = 1; simp [Lean.Grind.CommRing.Poly.denote]
  add := fun a b => Lean.Grind.CommRing.Poly.denote_combine ctx a b
  mul := fun a b => Lean.Grind.CommRing.Poly.denote_mul ctx a b
/-- h by e1, -e2, e3 -/
def gT {R : Type} (O : Ops R) (e1 m2 e3 : R) : Nat → R × R × R
  | 0 => (O.o, O.z, O.z)
  | d + 1 => let p := gT O e1 m2 e3 d
    (O.add (O.mul e1 p.1) (O.add (O.mul m2 p.2.1) (O.mul e3 p.2.2)), p.1, p.2.1)
theorem hom_gT {R S : Type} {O : Ops R} {U : Ops S} {φ : R → S} (h : Hom O U φ) (e1 m2 e3 : R) : ∀ d, (φ (gT O e1 m2 e3 d).1, φ (gT O e1 m2 e3 d).2.1, φ (gT O e1 m2 e3 d).2.2) = gT U (φ e1) (φ m2) (φ e3) d
  | 0 => by simp [gT, h.o, h.z]
  | d + 1 => by
    have ih := hom_gT h e1 m2 e3 d
    simp only [gT]
    rw [← ih]
    simp [h.add, h.mul]
def V (i : Nat) : GP := Lean.Grind.CommRing.Poly.ofVar i
def e1P2 : GP := (V 0).combine (V 3)
def m2P2 : GP := ((V 1).mul (V 2)).combine (((V 0).mul (V 3)).mulConst (-1))
def rows2 (i : Nat) : List GP := if i = 0 then [V 0, V 1] else if i = 1 then [V 2, V 3] else [.num 0, .num 0]
def e1P3 : GP := (V 0).combine ((V 4).combine (V 8))
def m2P3 : GP := (((V 1).mul (V 3)).combine (((V 2).mul (V 6)).combine ((V 5).mul (V 7)))).combine ((((V 0).mul (V 4)).combine (((V 0).mul (V 8)).combine ((V 4).mul (V 8)))).mulConst (-1))
def e3P3 : GP := ((((V 0).mul (V 4)).mul (V 8)).combine ((((V 1).mul (V 5)).mul (V 6)).combine (((V 2).mul (V 3)).mul (V 7)))).combine
  (((((V 0).mul (V 5)).mul (V 7)).combine ((((V 1).mul (V 3)).mul (V 8)).combine (((V 2).mul (V 4)).mul (V 6)))).mulConst (-1))
def rows3 (i : Nat) : List GP := if i = 0 then [V 0, V 1, V 2] else if i = 1 then [V 3, V 4, V 5] else if i = 2 then [V 6, V 7, V 8] else [.num 0, .num 0, .num 0]
theorem all2 : ∀ d < 9, (gtr OP 2 d rows2 == (gT OP e1P2 m2P2 (.num 0) d).1) = true := by decide +kernel
theorem all3 : ∀ d < 6, (gtr OP 3 d rows3 == (gT OP e1P3 m2P3 e3P3 d).1) = true := by decide +kernel
def ctx2 (a b c e : Rat) : GX Rat := .branch 2 (.branch 1 (.leaf a) (.leaf b)) (.branch 3 (.leaf c) (.leaf e))
def ctx3 (a b c d e f g h i : Rat) : GX Rat := .branch 4 (.branch 2 (.branch 1 (.leaf a) (.leaf b)) (.branch 3 (.leaf c) (.leaf d))) (.branch 6 (.branch 5 (.leaf e) (.leaf f)) (.branch 7 (.leaf g) (.branch 8 (.leaf h) (.leaf i))))
theorem den_V (ctx : GX Rat) (i : Nat) : Lean.Grind.CommRing.Poly.denote ctx (V i) = Lean.RArray.get ctx i := Lean.Grind.CommRing.Poly.denote_ofVar ctx i
theorem den_num (ctx : GX Rat) (k : Int) : Lean.Grind.CommRing.Poly.denote ctx (.num k) = (k : Rat) := by simp [Lean.Grind.CommRing.Poly.denote]
def OZ : Ops Int := ⟨0, 1, (· + ·), (· * ·)⟩
theorem hom_Z : Hom OZ OQ (fun z : Int => (z : Rat)) where
  z := rfl
  o := rfl
  add := fun a b => Rat.intCast_add a b
  mul := fun a b => Rat.intCast_mul a b
def T (e1 m2 e3 : Int) (d : Nat) : Int := (gT OZ e1 m2 e3 d).1
theorem T_Q (e1 m2 e3 : Int) (d : Nat) : (gT OQ (e1 : Rat) (m2 : Rat) (e3 : Rat) d).1 = (T e1 m2 e3 d : Rat) := by
  have := hom_gT hom_Z e1 m2 e3 d
  exact (congrArg (fun q => q.1) this).symm
theorem tr2 (a b c e : Int) {d : Nat} (hd : d < 9) : tr 2 d [a, b, c, e] = (T (a + e) (b * c - a * e) 0 d : Rat) := by
  have h := hom_P (ctx2 a b c e)
  rw [tr_gtr, ← T_Q]
  have er : (fun i => (rows2 i).map (Lean.Grind.CommRing.Poly.denote (ctx2 a b c e))) = unknown 2 [a, b, c, e] := by
    funext i
    match i with
    | 0 => simp [rows2, unknown, at_, List.range_succ, den_V]; exact ⟨rfl, rfl⟩
    | 1 => simp [rows2, unknown, at_, List.range_succ, den_V]; exact ⟨rfl, rfl⟩
    | i + 2 =>
      simp only [rows2, unknown, at_, List.range_succ, List.range_zero]
      simp [den_num, Nat.add_mul]
  rw [← er, ← hom_gtr h, eq_of_beq (all2 d hd)]
  have := congrArg (fun q => q.1) (hom_gT h e1P2 m2P2 (.num 0) d)
  simp only at this
  rw [this]
  have k1 : Lean.Grind.CommRing.Poly.denote (ctx2 a b c e) e1P2 = ((a + e : Int) : Rat) := by
    unfold e1P2
    rw [Lean.Grind.CommRing.Poly.denote_combine, den_V, den_V, Rat.intCast_add]
    rfl
  have k2 : Lean.Grind.CommRing.Poly.denote (ctx2 a b c e) m2P2 = ((b * c - a * e : Int) : Rat) := by
    unfold m2P2
    simp only [Lean.Grind.CommRing.Poly.denote_combine, Lean.Grind.CommRing.Poly.denote_mul, Lean.Grind.CommRing.Poly.denote_mulConst, den_V, Rat.intCast_sub, Rat.intCast_mul]
    show (b : Rat) * c + ((-1 : Int) : Rat) * (a * e) = _
    grind
  rw [k1, k2, den_num]
theorem tr3 (a b c d e f g h i : Int) {k : Nat} (hk : k < 6) : tr 3 k [a, b, c, d, e, f, g, h, i] =
    (T (a + e + i) (b * d + c * g + f * h - (a * e + a * i + e * i)) (a * (e * i - f * h) - b * (d * i - f * g) + c * (d * h - e * g)) k : Rat) := by
  have hh := hom_P (ctx3 a b c d e f g h i)
  rw [tr_gtr, ← T_Q]
  have er : (fun j => (rows3 j).map (Lean.Grind.CommRing.Poly.denote (ctx3 a b c d e f g h i))) = unknown 3 [a, b, c, d, e, f, g, h, i] := by
    funext j
    match j with
    | 0 => simp [rows3, unknown, at_, List.range_succ, den_V]; exact ⟨rfl, rfl, rfl⟩
    | 1 => simp [rows3, unknown, at_, List.range_succ, den_V]; exact ⟨rfl, rfl, rfl⟩
    | 2 => simp [rows3, unknown, at_, List.range_succ, den_V]; exact ⟨rfl, rfl, rfl⟩
    | j + 3 =>
      simp only [rows3, unknown, at_, List.range_succ, List.range_zero]
      simp [den_num, Nat.add_mul]
  rw [← er, ← hom_gtr hh, eq_of_beq (all3 k hk)]
  have := congrArg (fun q => q.1) (hom_gT hh e1P3 m2P3 e3P3 k)
  simp only at this
  rw [this]
  have k1 : Lean.Grind.CommRing.Poly.denote (ctx3 a b c d e f g h i) e1P3 = ((a + e + i : Int) : Rat) := by
    unfold e1P3
    simp only [Lean.Grind.CommRing.Poly.denote_combine, den_V, Rat.intCast_add]
    show (a : Rat) + (e + i) = _
    grind
  have k2 : Lean.Grind.CommRing.Poly.denote (ctx3 a b c d e f g h i) m2P3 = ((b * d + c * g + f * h - (a * e + a * i + e * i) : Int) : Rat) := by
    unfold m2P3
    simp only [Lean.Grind.CommRing.Poly.denote_combine, Lean.Grind.CommRing.Poly.denote_mul, Lean.Grind.CommRing.Poly.denote_mulConst, den_V, Rat.intCast_sub, Rat.intCast_mul, Rat.intCast_add]
    show ((b : Rat) * d + (c * g + f * h)) + ((-1 : Int) : Rat) * (a * e + (a * i + e * i)) = _
    grind
  have k3 : Lean.Grind.CommRing.Poly.denote (ctx3 a b c d e f g h i) e3P3 = ((a * (e * i - f * h) - b * (d * i - f * g) + c * (d * h - e * g) : Int) : Rat) := by
    unfold e3P3
    simp only [Lean.Grind.CommRing.Poly.denote_combine, Lean.Grind.CommRing.Poly.denote_mul, Lean.Grind.CommRing.Poly.denote_mulConst, den_V, Rat.intCast_sub, Rat.intCast_mul, Rat.intCast_add]
    show ((a : Rat) * e * i + (b * f * g + c * d * h)) + ((-1 : Int) : Rat) * (a * f * h + (b * d * i + c * e * g)) = _
    grind
  rw [k1, k2, k3]
/-! sums of powers -/
theorem newt (e1 m2 e3 : Int) (p : Nat → Int) (h1 : p 1 = e1) (h2 : p 2 = e1 * p 1 + 2 * m2) (h3 : p 3 = e1 * p 2 + m2 * p 1 + 3 * e3)
    (h4 : ∀ k, p (k + 4) = e1 * p (k + 3) + m2 * p (k + 2) + e3 * p (k + 1)) : ∀ d, d < 8 → ((List.range (d + 1)).map fun k => p (k + 1) * T e1 m2 e3 (d - k)).sum = ((d + 1 : Nat) : Int) * T e1 m2 e3 (d + 1) := by
  have t0 : T e1 m2 e3 0 = 1 := rfl
  have t1 : T e1 m2 e3 1 = e1 := by simp [T, gT, OZ]
  have t2 : T e1 m2 e3 2 = e1 * T e1 m2 e3 1 + m2 := by simp [T, gT, OZ]
  have t3 : ∀ d, T e1 m2 e3 (d + 3) = e1 * T e1 m2 e3 (d + 2) + m2 * T e1 m2 e3 (d + 1) + e3 * T e1 m2 e3 d := fun d => by simp [T, gT, OZ]; grind
  have q4 := h4 0; have q5 := h4 1; have q6 := h4 2; have q7 := h4 3; have q8 := h4 4
  have s3 := t3 0; have s4 := t3 1; have s5 := t3 2; have s6 := t3 3; have s7 := t3 4; have s8 := t3 5
  simp only [Nat.zero_add, Nat.reduceAdd] at q4 q5 q6 q7 q8 s3 s4 s5 s6 s7 s8
  clear h4 t3
  intro d hd
  match d, hd with
  | 0, _ => simp only [List.range_succ, List.range_zero, List.nil_append, List.cons_append, List.map_cons, List.map_nil, List.sum_cons, List.sum_nil, Nat.reduceAdd, Nat.reduceSub, Nat.zero_add, s8, s7, s6, s5, s4, s3, t2, t1, t0, q8, q7, q6, q5, q4, h3, h2, h1]; clear q4 q5 q6 q7 q8 s3 s4 s5 s6 s7 s8 h1 h2 h3 t0 t1 t2; grind
  | 1, _ => simp only [List.range_succ, List.range_zero, List.nil_append, List.cons_append, List.map_cons, List.map_nil, List.sum_cons, List.sum_nil, Nat.reduceAdd, Nat.reduceSub, Nat.zero_add, s8, s7, s6, s5, s4, s3, t2, t1, t0, q8, q7, q6, q5, q4, h3, h2, h1]; clear q4 q5 q6 q7 q8 s3 s4 s5 s6 s7 s8 h1 h2 h3 t0 t1 t2; grind
  | 2, _ => simp only [List.range_succ, List.range_zero, List.nil_append, List.cons_append, List.map_cons, List.map_nil, List.sum_cons, List.sum_nil, Nat.reduceAdd, Nat.reduceSub, Nat.zero_add, s8, s7, s6, s5, s4, s3, t2, t1, t0, q8, q7, q6, q5, q4, h3, h2, h1]; clear q4 q5 q6 q7 q8 s3 s4 s5 s6 s7 s8 h1 h2 h3 t0 t1 t2; grind
  | 3, _ => simp only [List.range_succ, List.range_zero, List.nil_append, List.cons_append, List.map_cons, List.map_nil, List.sum_cons, List.sum_nil, Nat.reduceAdd, Nat.reduceSub, Nat.zero_add, s8, s7, s6, s5, s4, s3, t2, t1, t0, q8, q7, q6, q5, q4, h3, h2, h1]; clear q4 q5 q6 q7 q8 s3 s4 s5 s6 s7 s8 h1 h2 h3 t0 t1 t2; grind
  | 4, _ => simp only [List.range_succ, List.range_zero, List.nil_append, List.cons_append, List.map_cons, List.map_nil, List.sum_cons, List.sum_nil, Nat.reduceAdd, Nat.reduceSub, Nat.zero_add, s8, s7, s6, s5, s4, s3, t2, t1, t0, q8, q7, q6, q5, q4, h3, h2, h1]; clear q4 q5 q6 q7 q8 s3 s4 s5 s6 s7 s8 h1 h2 h3 t0 t1 t2; grind
  | 5, _ => simp only [List.range_succ, List.range_zero, List.nil_append, List.cons_append, List.map_cons, List.map_nil, List.sum_cons, List.sum_nil, Nat.reduceAdd, Nat.reduceSub, Nat.zero_add, s8, s7, s6, s5, s4, s3, t2, t1, t0, q8, q7, q6, q5, q4, h3, h2, h1]; clear q4 q5 q6 q7 q8 s3 s4 s5 s6 s7 s8 h1 h2 h3 t0 t1 t2; grind
  | 6, _ => simp only [List.range_succ, List.range_zero, List.nil_append, List.cons_append, List.map_cons, List.map_nil, List.sum_cons, List.sum_nil, Nat.reduceAdd, Nat.reduceSub, Nat.zero_add, s8, s7, s6, s5, s4, s3, t2, t1, t0, q8, q7, q6, q5, q4, h3, h2, h1]; clear q4 q5 q6 q7 q8 s3 s4 s5 s6 s7 s8 h1 h2 h3 t0 t1 t2; grind
  | 7, _ => simp only [List.range_succ, List.range_zero, List.nil_append, List.cons_append, List.map_cons, List.map_nil, List.sum_cons, List.sum_nil, Nat.reduceAdd, Nat.reduceSub, Nat.zero_add, s8, s7, s6, s5, s4, s3, t2, t1, t0, q8, q7, q6, q5, q4, h3, h2, h1]; clear q4 q5 q6 q7 q8 s3 s4 s5 s6 s7 s8 h1 h2 h3 t0 t1 t2; grind
end LA
namespace LA
open Wp04 GC
def E1 (n : Nat) (t : Tab) : Int := if n = 2 then t.getD 0 0 + t.getD 3 0 else t.getD 0 0 + t.getD 4 0 + t.getD 8 0
def M2 (n : Nat) (t : Tab) : Int := if n = 2 then t.getD 1 0 * t.getD 2 0 - t.getD 0 0 * t.getD 3 0
  else t.getD 1 0 * t.getD 3 0 + t.getD 2 0 * t.getD 6 0 + t.getD 5 0 * t.getD 7 0 - (t.getD 0 0 * t.getD 4 0 + t.getD 0 0 * t.getD 8 0 + t.getD 4 0 * t.getD 8 0)
def E3 (n : Nat) (t : Tab) : Int := if n = 2 then 0
  else t.getD 0 0 * (t.getD 4 0 * t.getD 8 0 - t.getD 5 0 * t.getD 7 0) - t.getD 1 0 * (t.getD 3 0 * t.getD 8 0 - t.getD 5 0 * t.getD 6 0) + t.getD 2 0 * (t.getD 3 0 * t.getD 7 0 - t.getD 4 0 * t.getD 6 0)
/-- the sum on the diagonal of what a table does to the monomials of degree d, a whole number -/
def Tt (n : Nat) (t : Tab) (d : Nat) : Int := T (E1 n t) (M2 n t) (E3 n t) d
def bnd (n : Nat) : Nat := if n = 2 then 8 else 5
theorem tr_Tt {n d : Nat} (hn : n = 2 ∨ n = 3) {t : Tab} (ht : t.length = n * n) (hd : d ≤ bnd n) : tr n d t = (Tt n t d : Rat) := by
  rcases hn with rfl | rfl
  · obtain ⟨a, b, c, e, rfl⟩ := four ht
    exact tr2 a b c e (by simp [bnd] at hd; omega)
  · obtain ⟨a, b, c, d', e, f, g, h, i, rfl⟩ := nine ht
    exact tr3 a b c d' e f g h i (by simp [bnd] at hd; omega)
theorem len_powerOf (n : Nat) (t : Tab) : ∀ k, (powerOf n t k).length = n * n
  | 0 => len_ident n
  | k + 1 => len_then ..
theorem trace2 (x y z w : Int) : trace 2 [x, y, z, w] = x + w := by simp [trace, at_, List.range_succ, isum]
theorem trace3 (a b c d e f g h i : Int) : trace 3 [a, b, c, d, e, f, g, h, i] = a + e + i := by simp [trace, at_, List.range_succ, isum]
theorem newton {n : Nat} (hn : n = 2 ∨ n = 3) {t : Tab} (ht : t.length = n * n) : ∀ d, d < 8 → ((List.range (d + 1)).map fun k => trace n (powerOf n t (k + 1)) * Tt n t (d - k)).sum = ((d + 1 : Nat) : Int) * Tt n t (d + 1) := by
  have ps : ∀ k, powerOf n t (k + 1) = then_ n (powerOf n t k) t := fun _ => rfl
  have p1 : powerOf n t 1 = t := by rw [ps]; exact id_then hn ht
  refine newt _ _ _ (fun k => trace n (powerOf n t k)) ?_ ?_ ?_ ?_
  · simp only [p1]
    rcases hn with rfl | rfl
    · obtain ⟨a, b, c, e, rfl⟩ := four ht
      rw [trace2]; rfl
    · obtain ⟨a, b, c, d', e, f, g, h, i, rfl⟩ := nine ht
      rw [trace3]; rfl
  · simp only [ps 1, p1]
    rcases hn with rfl | rfl
    · obtain ⟨a, b, c, e, rfl⟩ := four ht
      rw [then2, trace2, trace2]; simp [E1, M2]; grind
    · obtain ⟨a, b, c, d', e, f, g, h, i, rfl⟩ := nine ht
      rw [then3, trace3, trace3]; simp [E1, M2]; grind
  · simp only [ps 2, ps 1, p1]
    rcases hn with rfl | rfl
    · obtain ⟨a, b, c, e, rfl⟩ := four ht
      rw [then2, then2, trace2, trace2, trace2]; simp [E1, M2, E3]; grind
    · obtain ⟨a, b, c, d', e, f, g, h, i, rfl⟩ := nine ht
      rw [then3, then3, trace3, trace3, trace3]; simp [E1, M2, E3]; grind
  · intro k
    simp only [ps (k + 3), ps (k + 2), ps (k + 1)]
    have hl := len_powerOf n t (k + 1)
    generalize powerOf n t (k + 1) = M at hl
    rcases hn with rfl | rfl
    · obtain ⟨a, b, c, e, rfl⟩ := four ht
      obtain ⟨x, y, z, w, rfl⟩ := four hl
      rw [then2, then2, then2, trace2, trace2, trace2, trace2]; simp [E1, M2, E3]; grind
    · obtain ⟨a, b, c, d', e, f, g, h, i, rfl⟩ := nine ht
      obtain ⟨m1, m2, m3, m4, m5, m6, m7, m8, m9, rfl⟩ := nine hl
      rw [then3, then3, then3, trace3, trace3, trace3, trace3]; simp [E1, M2, E3]; grind
theorem cast_sum {α : Type} (l : List α) (f : α → Int) : ((l.map f).sum : Rat) = (l.map fun x => (f x : Rat)).sum := by
  induction l with
  | nil => rfl
  | cons a l ih => simp only [List.map_cons, List.sum_cons, Rat.intCast_add, ih]
theorem hs_eq {n : Nat} (hn : n = 2 ∨ n = 3) {t : Tab} (ht : t.length = n * n) : ∀ d, d ≤ 8 → hs n t d = (List.range (d + 1)).map fun k => (Tt n t k : Rat)
  | 0, _ => by simp [hs, Tt, T, gT, OZ, List.range_succ]
  | d + 1, hd => by
    have ih := hs_eq hn ht d (by omega)
    unfold hs
    simp only [ih]
    rw [List.range_succ (n := d + 1), List.map_append]
    congr 1
    simp only [List.map_cons, List.map_nil, List.cons.injEq, and_true]
    rw [rsum_eq]
    have e : ((List.range (d + 1)).map fun (k : Nat) => ((trace n (powerOf n t (k + 1)) : Int) : Rat) * ((List.range (d + 1)).map fun k => (Tt n t k : Rat)).getD (d - k) 0) = (List.range (d + 1)).map fun k => ((trace n (powerOf n t (k + 1)) * Tt n t (d - k) : Int) : Rat) := by
      apply List.map_congr_left
      intro k hk
      simp at hk
      rw [Rat.intCast_mul]
      congr 1
      simp [List.getD_eq_getElem?_getD, show d - k < d + 1 by omega]
    rw [e, ← cast_sum, newton hn ht d (by omega), Rat.intCast_mul]
    have : ((d + 1 : Nat) : Int) = (d : Int) + 1 := by omega
    rw [this, Rat.intCast_add]
    have h0 : (((d : Int) : Rat) + ((1 : Int) : Rat)) ≠ 0 := by
      rw [← Rat.intCast_add]
      intro z
      have : (d : Int) + 1 = 0 := by exact_mod_cast z
      omega
    have h1 : ((d : Rat) + 1) = (((d : Int) : Rat) + ((1 : Int) : Rat)) := rfl
    rw [h1]
    grind
section
variable {n : Nat} {gens : List Tab}
theorem bnd8 {n : Nat} : bnd n ≤ 8 := by unfold bnd; split <;> omega
/-- **the sum over the group** -/
theorem sum_Tt (G : GensOk n gens) (h48 : (group n gens).length ≤ 48) {d : Nat} (hd : d ≤ bnd n) : ((group n gens).map fun t => Tt n t d).sum = ((group n gens).length : Int) * ((stay n d (group n gens)).length : Int) := by
  obtain ⟨_, _, hr, _⟩ := group_closed h48
  have e := stay_count G h48 d
  have : (group n gens).map (tr n d) = (group n gens).map fun t => (Tt n t d : Rat) := by
    apply List.map_congr_left
    intro t ht
    exact tr_Tt G.hn (len_reach (hr t ht)) hd
  rw [this, ← cast_sum] at e
  exact_mod_cast e
theorem count_eq (G : GensOk n gens) (h48 : (group n gens).length ≤ 48) {d : Nat} (hd : d ≤ bnd n) : count n d (group n gens) = ((stay n d (group n gens)).length : Rat) := by
  obtain ⟨_, _, hr, _⟩ := group_closed h48
  unfold count
  rw [rsum_eq]
  have : ((group n gens).map fun (t : Tab) => (hs n t d).getD d 0) = (group n gens).map fun t => (Tt n t d : Rat) := by
    apply List.map_congr_left
    intro t ht
    rw [hs_eq G.hn (len_reach (hr t ht)) d (Nat.le_trans hd bnd8)]
    simp [List.getD_eq_getElem?_getD]
  rw [this, ← cast_sum, sum_Tt G h48 hd, Rat.intCast_mul]
  have := group_pos h48
  have e1 : (((group n gens).length : Int) : Rat) = ((group n gens).length : Rat) := rfl
  have e2 : (((stay n d (group n gens)).length : Int) : Rat) = ((stay n d (group n gens)).length : Rat) := rfl
  rw [e1, e2]
  grind
theorem count_num (G : GensOk n gens) (h48 : (group n gens).length ≤ 48) {d : Nat} (hd : d ≤ bnd n) : (count n d (group n gens)).num = ((stay n d (group n gens)).length : Int) := by
  rw [count_eq G h48 hd]
  exact Rat.num_natCast _
end
end LA
namespace LA
open Wp04
/-! ## determinants, by their columns -/
abbrev Row := List Int
def fi (b : Row) (i : Nat) : Int := b.getD i 0
/-- the alternating sum over one row taken out -/
def A {α : Type} (f : α → List α → Int) : List α → Int
  | [] => 0
  | r :: rs => f r rs - A (fun x l => f x (r :: l)) rs
theorem A_congr {α : Type} {f g : α → List α → Int} : ∀ (l : List α), (∀ x k, f x k = g x k) → A f l = A g l
  | l, h => by
    have : f = g := funext fun x => funext fun k => h x k
    rw [this]
theorem A_mul {α : Type} (c : Int) : ∀ (l : List α) (f : α → List α → Int), A (fun x k => c * f x k) l = c * A f l
  | [], f => by simp [A]
  | r :: rs, f => by
    simp only [A]
    rw [A_mul c rs (fun x l => f x (r :: l))]
    grind
theorem A_sub {α : Type} : ∀ (l : List α) (f g : α → List α → Int), A (fun x k => f x k - g x k) l = A f l - A g l
  | [], f, g => by simp [A]
  | r :: rs, f, g => by
    simp only [A]
    rw [A_sub rs (fun x l => f x (r :: l)) (fun x l => g x (r :: l))]
    grind
def det : List Row → List Nat → Int
  | _, [] => 1
  | rows, c :: cols => A (fun r l => fi r c * det l cols) rows
def AA (c d : Nat) (F : List Row → Int) (rows : List Row) : Int := A (fun r l => fi r c * A (fun r' l' => fi r' d * F l') l) rows
theorem AA_cons (c d : Nat) (F : List Row → Int) (r : Row) (rs : List Row) :
    AA c d F (r :: rs) = fi r c * A (fun x l => fi x d * F l) rs - fi r d * A (fun x l => fi x c * F l) rs + AA c d (fun l => F (r :: l)) rs := by
  unfold AA
  simp only [A]
  have e : A (fun x l => fi x c * (fi r d * F l - A (fun r' l' => fi r' d * F (r :: l')) l)) rs = fi r d * A (fun x l => fi x c * F l) rs - A (fun x l => fi x c * A (fun r' l' => fi r' d * F (r :: l')) l) rs := by
    rw [← A_mul, ← A_sub]
    exact A_congr _ fun x k => by grind
  rw [e]
  grind
theorem AA_swap (c d : Nat) : ∀ (rows : List Row) (F : List Row → Int), AA c d F rows = - AA d c F rows
  | [], F => by simp [AA, A]
  | r :: rs, F => by
    rw [AA_cons, AA_cons, AA_swap c d rs]
    grind
theorem det_swap (rows : List Row) (c d : Nat) (cols : List Nat) : det rows (c :: d :: cols) = - det rows (d :: c :: cols) := AA_swap c d rows fun l => det l cols
theorem det_dup : ∀ (cols : List Nat) (c : Nat) (rows : List Row), c ∈ cols → det rows (c :: cols) = 0
  | [], c, rows, h => by simp at h
  | e :: cols, c, rows, h => by
    by_cases q : c = e
    · subst q
      have := det_swap rows c c cols
      omega
    · have hc : c ∈ cols := by simpa [q] using h
      rw [det_swap]
      have : det rows (e :: c :: cols) = A (fun r l => fi r e * 0) rows := A_congr _ fun r l => by rw [det_dup cols c l hc]
      rw [this, A_mul' ]
      rfl
where
  A_mul' {rows : List Row} {e : Nat} : A (fun r l => fi r e * 0) rows = 0 := by
    have : A (fun (r : Row) (l : List Row) => fi r e * 0) rows = A (fun r l => 0 * fi r e) rows := A_congr _ fun r l => by grind
    rw [this, A_mul]
    grind
theorem det_move : ∀ (cols : List Nat) (c : Nat), c ∈ cols → ∃ s : Int, (s = 1 ∨ s = -1) ∧ ∀ rows, det rows (c :: cols.erase c) = s * det rows cols
  | [], c, h => by simp at h
  | e :: cols, c, h => by
    by_cases q : c = e
    · subst q
      exact ⟨1, Or.inl rfl, fun rows => by simp⟩
    · have hc : c ∈ cols := by simpa [q] using h
      obtain ⟨s, hs, k⟩ := det_move cols c hc
      refine ⟨-s, by omega, fun rows => ?_⟩
      rw [List.erase_cons_tail (by simpa using fun z => q z.symm), det_swap]
      have : det rows (e :: c :: cols.erase c) = A (fun r l => s * (fi r e * det l cols)) rows := A_congr _ fun r l => by
        show fi r e * det l (c :: cols.erase c) = _
        rw [k l]; grind
      rw [this, A_mul]
      show - (s * det rows (e :: cols)) = _
      grind
theorem A_le {α : Type} (B : Nat) : ∀ (l : List α) (f : α → List α → Int), (∀ x k, x ∈ l → (∀ y ∈ k, y ∈ l) → k.length + 1 = l.length → (f x k).natAbs ≤ B) → (A f l).natAbs ≤ l.length * B
  | [], f, _ => by simp [A]
  | r :: rs, f, h => by
    simp only [A, List.length_cons]
    have h1 := h r rs (by simp) (fun y hy => by simp [hy]) rfl
    have h2 := A_le B rs (fun x l => f x (r :: l)) fun x k hx hk hl => h x (r :: k) (by simp [hx]) (fun y hy => by
      rcases List.mem_cons.mp hy with e | hy
      · simp [e]
      · simp [hk y hy]) (by simp; omega)
    rw [Nat.add_mul]
    omega
theorem det_le (M N : Nat) : ∀ (cols : List Nat) (rows : List Row), (∀ r ∈ rows, ∀ c ∈ cols, (fi r c).natAbs ≤ M) → rows.length ≤ N → (det rows cols).natAbs ≤ (N * M) ^ cols.length
  | [], rows, _, _ => by simp [det]
  | c :: cols, rows, h, hl => by
    have := A_le (M * (N * M) ^ cols.length) rows (fun r l => fi r c * det l cols) fun x k hx hk hkl => by
      rw [Int.natAbs_mul]
      exact Nat.mul_le_mul (h x hx c (by simp)) (det_le M N cols k (fun r hr d hd => h r (hk r hr) d (by simp [hd])) (by omega))
    refine Nat.le_trans this ?_
    rw [List.length_cons, Nat.pow_succ]
    calc rows.length * (M * (N * M) ^ cols.length) ≤ N * (M * (N * M) ^ cols.length) := Nat.mul_le_mul_right _ hl
      _ = (N * M) ^ cols.length * (N * M) := by rw [← Nat.mul_assoc, Nat.mul_comm]
/-! ## rows of whole numbers -/
def iq (b : Row) : List Rat := b.map fun (z : Int) => (z : Rat)
theorem fn_iq (b : Row) (i : Nat) : fn (iq b) i = (fi b i : Rat) := by
  simp only [fn, fi, iq, List.getD_eq_getElem?_getD, List.getElem?_map]
  cases b[i]? <;> rfl
theorem len_iq (b : Row) : (iq b).length = b.length := by simp [iq]
/-- what columns of the others take out of a row, by minors, is made of these -/
theorem A_span : ∀ (rows : List Row) (F : List Row → Int), Sp (rows.map iq) (fun j => (A (fun r l => fi r j * F l) rows : Rat))
  | [], F => by
    refine Sp.zero.eq fun i => ?_
    simp [A]
  | r :: rs, F => by
    have ih := A_span rs fun l => F (r :: l)
    have h1 : Sp ((r :: rs).map iq) (fun j => (A (fun x l => fi x j * F (r :: l)) rs : Rat)) := Sp.mono (fun b hb => by simp at hb ⊢; exact Or.inr hb) ih
    have h2 := (Sp.mem (l := (r :: rs).map iq) (b := iq r) (by simp)).mul (F rs : Rat)
    refine (h2.add (h1.mul (-1))).eq fun j => ?_
    rw [fn_iq]
    show _ = ((fi r j * F rs - A (fun x l => fi x j * F (r :: l)) rs : Int) : Rat)
    rw [Rat.intCast_sub, Rat.intCast_mul]
    grind
theorem det_span (rows : List Row) (cols : List Nat) : Sp (rows.map iq) (fun j => (det rows (j :: cols) : Rat)) := A_span rows fun l => det l cols
theorem det_head (o : Row) (V : List Row) (cols : List Nat) : ∃ v, Sp (V.map iq) v ∧ ∀ j, (det (o :: V) (j :: cols) : Rat) = (det V cols : Rat) * fn (iq o) j + v j := by
  refine ⟨fun j => (-1) * (A (fun x l => fi x j * det (o :: l) cols) V : Rat), (A_span V fun l => det (o :: l) cols).mul (-1), fun j => ?_⟩
  show ((fi o j * det V cols - A (fun x l => fi x j * det (o :: l) cols) V : Int) : Rat) = _
  rw [Rat.intCast_sub, Rat.intCast_mul, fn_iq]
  grind
/-! the greatest common part -/
def gcdl (row : Row) : Nat := row.foldl (fun (g : Nat) (x : Int) => Nat.gcd g x.natAbs) 0
theorem gcd_fold (d : Nat) : ∀ (row : Row) (g : Nat), d ∣ row.foldl (fun (g : Nat) (x : Int) => Nat.gcd g x.natAbs) g ↔ d ∣ g ∧ ∀ x ∈ row, d ∣ x.natAbs
  | [], g => by simp
  | x :: row, g => by
    simp only [List.foldl_cons]
    rw [gcd_fold d row]
    constructor
    · rintro ⟨h1, h2⟩
      have := Nat.dvd_gcd_iff.mp h1
      exact ⟨this.1, fun y hy => by
        rcases List.mem_cons.mp hy with e | hy
        · rw [e]; exact this.2
        · exact h2 y hy⟩
    · rintro ⟨h1, h2⟩
      exact ⟨Nat.dvd_gcd_iff.mpr ⟨h1, h2 x (by simp)⟩, fun y hy => h2 y (by simp [hy])⟩
theorem dvd_gcdl {d : Nat} {row : Row} : d ∣ gcdl row ↔ ∀ x ∈ row, d ∣ x.natAbs := by
  unfold gcdl
  rw [gcd_fold]
  simp
theorem gcdl_dvd {row : Row} {x : Int} (h : x ∈ row) : ((gcdl row : Nat) : Int) ∣ x := Int.ofNat_dvd_left.mpr (dvd_gcdl.mp (Nat.dvd_refl _) x h)
theorem gcdl_zero {row : Row} (h : gcdl row = 0) : ∀ x ∈ row, x = 0 := fun x hx => by
  have := gcdl_dvd hx
  rw [h] at this
  simpa using this
def shorten (row : Row) : Row := if gcdl row = 0 then row else row.map fun z => z / (gcdl row : Int)
theorem shorten_prim {row : Row} (h : gcdl row ≠ 0) : gcdl (shorten row) = 1 := by
  unfold shorten
  rw [if_neg h]
  generalize hk : gcdl (row.map fun z => z / (gcdl row : Int)) = k
  have h1 : k * gcdl row ∣ gcdl row := by
    rw [dvd_gcdl]
    intro x hx
    obtain ⟨y, hy⟩ := gcdl_dvd hx
    have hd : k ∣ (x / (gcdl row : Int)).natAbs := by
      rw [← hk]
      exact dvd_gcdl.mp (Nat.dvd_refl _) _ (List.mem_map.mpr ⟨x, hx, rfl⟩)
    rw [hy, Int.mul_ediv_cancel_left _ (by omega)] at hd
    rw [hy, Int.natAbs_mul, Nat.mul_comm]
    exact Nat.mul_dvd_mul (by simp) hd
  have : k * gcdl row ≤ gcdl row := Nat.le_of_dvd (by omega) h1
  have hk0 : k ≠ 0 := by
    intro z
    rw [z] at h1
    simp at h1
    exact h h1
  have : k ≤ 1 := by
    rcases Nat.lt_or_ge 1 k with h2 | h2
    · have : 2 * gcdl row ≤ k * gcdl row := Nat.mul_le_mul_right _ h2
      omega
    · exact h2
  omega
theorem fi_shorten {row : Row} (h : gcdl row ≠ 0) (j : Nat) : fi row j = (gcdl row : Int) * fi (shorten row) j := by
  unfold shorten
  rw [if_neg h]
  simp only [fi, List.getD_eq_getElem?_getD, List.getElem?_map]
  cases e : row[j]? with
  | none => simp
  | some x =>
    have := gcdl_dvd (List.mem_of_getElem? e)
    show x = (gcdl row : Int) * (x / (gcdl row : Int))
    exact (Int.mul_ediv_cancel' this).symm
theorem len_shorten (row : Row) : (shorten row).length = row.length := by
  unfold shorten
  split <;> simp
theorem fi_range (N : Nat) (c : Nat → Int) (j : Nat) (hj : j < N) : fi ((List.range N).map c) j = c j := by
  simp [fi, List.getD_eq_getElem?_getD, hj]
theorem fi_ge {b : Row} {i : Nat} (h : b.length ≤ i) : fi b i = 0 := by
  simp [fi, List.getD_eq_getElem?_getD, List.getElem?_eq_none h]
def mixed (row by' : Row) (p : Nat) : Row := (List.range row.length).map fun j => fi by' p * fi row j - fi row p * fi by' j
def clear (row by' : Row) (p : Nat) : Row := if fi row p = 0 then row else shorten (mixed row by' p)
theorem fi_mixed {N : Nat} {row by' : Row} (p j : Nat) (h1 : row.length = N) (h2 : by'.length = N) : fi (mixed row by' p) j = fi by' p * fi row j - fi row p * fi by' j := by
  by_cases hj : j < row.length
  · exact fi_range _ _ _ hj
  · rw [fi_ge (b := mixed row by' p) (by simp [mixed]; omega), fi_ge (b := row) (i := j) (by omega), fi_ge (b := by') (i := j) (by omega)]
    simp
/-- a row that is one of the first, or has nothing in common, or is nothing -/
def Prim (orig : List Row) (b : Row) : Prop := b ∈ orig ∨ gcdl b = 1 ∨ ∀ j, fi b j = 0
theorem fi_zero {b : Row} (h : ∀ x ∈ b, x = 0) (j : Nat) : fi b j = 0 := by
  simp only [fi, List.getD_eq_getElem?_getD]
  cases e : b[j]? with
  | none => rfl
  | some x => exact h x (List.mem_of_getElem? e)
theorem clear_ok {N : Nat} {orig : List Row} {row by' : Row} {p : Nat} (h1 : row.length = N) (h2 : by'.length = N) (hp : fi by' p ≠ 0) (hq : Prim orig row) :
    (clear row by' p).length = N ∧ Prim orig (clear row by' p) ∧ fi (clear row by' p) p = 0 ∧
    ∃ c : Rat, c ≠ 0 ∧ ∀ j, (fi row j : Rat) + (-((fi row p : Rat) / (fi by' p : Rat))) * (fi by' j : Rat) = c * (fi (clear row by' p) j : Rat) := by
  have hpq : ((fi by' p : Int) : Rat) ≠ 0 := fun z => hp (by exact_mod_cast z)
  unfold clear
  by_cases h0 : fi row p = 0
  · rw [if_pos h0]
    refine ⟨h1, hq, h0, 1, by decide, fun j => ?_⟩
    rw [h0]
    have : (((0 : Int) : Rat)) = 0 := rfl
    rw [this]
    grind
  · rw [if_neg h0]
    have hm := fun j => fi_mixed p j h1 h2
    refine ⟨by rw [len_shorten]; simp [mixed, h1], ?_, ?_, ?_⟩
    · by_cases hg : gcdl (mixed row by' p) = 0
      · refine Or.inr (Or.inr fun j => ?_)
        unfold shorten
        rw [if_pos hg]
        exact fi_zero (gcdl_zero hg) j
      · exact Or.inr (Or.inl (shorten_prim hg))
    · by_cases hg : gcdl (mixed row by' p) = 0
      · unfold shorten
        rw [if_pos hg]
        exact fi_zero (gcdl_zero hg) p
      · have e := fi_shorten hg p
        rw [hm] at e
        have : (gcdl (mixed row by' p) : Int) * fi (shorten (mixed row by' p)) p = 0 := by grind
        rcases Int.mul_eq_zero.mp this with z | z
        · exact absurd (by exact_mod_cast z) hg
        · exact z
    · by_cases hg : gcdl (mixed row by' p) = 0
      · refine ⟨1, by decide, fun j => ?_⟩
        unfold shorten
        rw [if_pos hg]
        have e := hm j
        rw [fi_zero (gcdl_zero hg) j] at e
        have e2 : ((0 : Int) : Rat) = (fi by' p : Rat) * fi row j - fi row p * fi by' j := by rw [e, Rat.intCast_sub, Rat.intCast_mul, Rat.intCast_mul]
        have e3 : ((0 : Int) : Rat) = 0 := rfl
        rw [fi_zero (gcdl_zero hg) j, e3]
        rw [e3] at e2
        grind
      · have hgq : (((gcdl (mixed row by' p) : Nat) : Int) : Rat) ≠ 0 := fun z => hg (by exact_mod_cast z)
        refine ⟨(((gcdl (mixed row by' p) : Nat) : Int) : Rat) / (fi by' p : Rat), by grind, fun j => ?_⟩
        have e := fi_shorten hg j
        rw [hm] at e
        have e2 : (fi by' p : Rat) * fi row j - fi row p * fi by' j = (((gcdl (mixed row by' p) : Nat) : Int) : Rat) * (fi (shorten (mixed row by' p)) j : Rat) := by
          rw [← Rat.intCast_mul, ← Rat.intCast_mul, ← Rat.intCast_sub, e, Rat.intCast_mul]
        grind
theorem num_over (q : Rat) : q = (q.num : Rat) / ((q.den : Int) : Rat) := by rw [← Rat.divInt_eq_div]; exact (Rat.num_divInt_den q).symm
/-- a row with nothing in common is the least of its whole multiples -/
theorem prim_le {b : Row} (hb : gcdl b = 1) {w : Nat → Int} {q : Rat} (hq : q ≠ 0) (h : ∀ j, (w j : Rat) = q * (fi b j : Rat)) (j : Nat) : (fi b j).natAbs ≤ (w j).natAbs := by
  have hden : q.den = 1 := by
    have : q.den ∣ gcdl b := by
      rw [dvd_gcdl]
      intro x hx
      obtain ⟨i, hi, e⟩ := List.getElem_of_mem hx
      have hx2 : fi b i = x := by simp [fi, List.getD_eq_getElem?_getD, List.getElem?_eq_getElem hi, e]
      have hw := h i
      rw [hx2] at hw
      have e1 : (w i) * (q.den : Int) = q.num * x := by
        have hd : ((q.den : Int) : Rat) ≠ 0 := fun z => q.den_nz (by exact_mod_cast z)
        have : ((w i * (q.den : Int) : Int) : Rat) = ((q.num * x : Int) : Rat) := by
          rw [Rat.intCast_mul, Rat.intCast_mul, hw]
          have hq2 : q = (q.num : Rat) / ((q.den : Int) : Rat) := num_over q
          have : q * ((q.den : Int) : Rat) = (q.num : Rat) := by
            conv => lhs; arg 1; rw [hq2]
            grind
          grind
        exact_mod_cast this
      have e2 : q.den ∣ q.num.natAbs * x.natAbs := by
        rw [← Int.natAbs_mul, ← e1, Int.natAbs_mul]
        exact Nat.dvd_mul_left ..
      exact Nat.Coprime.dvd_of_dvd_mul_left (Nat.Coprime.symm q.reduced) e2
    rw [hb] at this
    exact Nat.dvd_one.mp this
  have hqn : q = (q.num : Rat) := by
    have := num_over q
    rw [hden] at this
    have e1 : (((1 : Nat) : Int) : Rat) = 1 := rfl
    rw [e1] at this
    generalize (q.num : Rat) = z at this ⊢
    grind
  have hw : w j = q.num * fi b j := by
    have := h j
    rw [hqn, ← Rat.intCast_mul] at this
    exact_mod_cast this
  have hn : q.num ≠ 0 := fun z => hq (by rw [hqn, z]; rfl)
  rw [hw, Int.natAbs_mul]
  have : 1 ≤ q.num.natAbs := by omega
  calc (fi b j).natAbs = 1 * (fi b j).natAbs := by simp
    _ ≤ _ := Nat.mul_le_mul_right _ this
end LA
namespace LA
open Wp04
def lead (b : Row) : Nat := first (iq b)
def nrm (b : Row) : List Rat := scale (1 / (fi b (lead b) : Rat)) (iq b)
theorem cast_ne {z : Int} (h : z ≠ 0) : (z : Rat) ≠ 0 := fun e => h (by exact_mod_cast e)
theorem cast_zero : ((0 : Int) : Rat) = 0 := rfl
theorem lead_lt {b : Row} {j : Nat} (h : j < lead b) : fi b j = 0 := by
  have := fn_first_lt (b := iq b) h
  rw [fn_iq] at this
  exact_mod_cast this
theorem lead_eq {b : Row} {k : Nat} (h : fi b k ≠ 0) (h0 : ∀ i < k, fi b i = 0) : lead b = k :=
  first_eq (by rw [fn_iq]; exact cast_ne h) fun i hi => by rw [fn_iq, h0 i hi]; rfl
theorem fn_nrm (b : Row) (j : Nat) : fn (nrm b) j = (fi b j : Rat) / (fi b (lead b) : Rat) := by
  unfold nrm
  rw [fn_scale, fn_iq]
  grind
theorem first_nrm {b : Row} (h : fi b (lead b) ≠ 0) : first (nrm b) = lead b := by
  have := cast_ne h
  apply first_eq
  · rw [fn_nrm]; grind
  · intro i hi
    rw [fn_nrm, lead_lt hi, cast_zero]; grind
theorem len_nrm (b : Row) : (nrm b).length = b.length := by unfold nrm; rw [len_scale, len_iq]
theorem Red.zero {l : List (List Rat)} (h : Red l) {v : Nat → Rat} (hv : Sp l v) (h0 : ∀ b ∈ l, v (first b) = 0) (i : Nat) : v i = 0 := by
  rw [h.coords hv i, sm_zero]
  intro b hb
  rw [h0 b hb]
  grind
theorem lessen_id {N : Nat} : ∀ (l : List (List Rat)) (a : List Rat), a.length = N → (∀ b ∈ l, b.length = N) → (∀ b ∈ l, fn a (first b) = 0) → lessen l a = a
  | [], a, _, _, _ => rfl
  | b :: l, a, h, hl, h0 => by
    have hb := hl b (by simp)
    have e : plus a (scale (-(fn a (first b))) b) = a := by
      refine fn_ext (by rw [len_plus _ _ (by rw [len_scale, h, hb])]) fun i => ?_
      rw [fn_take1 h hb, h0 b (by simp)]
      grind
    rw [lessen_cons, e]
    exact lessen_id l a h (fun c hc => hl c (by simp [hc])) (fun c hc => h0 c (by simp [hc]))
def pick (left : List Row) (p : Nat) : Option Nat := left.findIdx? fun r => decide (fi r p ≠ 0)
def turn (s : List Row × List Row) (p : Nat) : List Row × List Row := match pick s.1 p with
  | none => s
  | some k => ((s.1.eraseIdx k).map fun r => clear r (s.1.getD k []) p, (s.2.map fun r => clear r (s.1.getD k []) p) ++ [s.1.getD k []])
def elim (rows : List Row) (N : Nat) : List Row × List Row := (List.range N).foldl turn (rows, [])
structure St (N : Nat) (orig : List Row) (p : Nat) (left kept V : List Row) : Prop where
  lenl : ∀ b ∈ left, b.length = N
  lenk : ∀ b ∈ kept, b.length = N
  vo : ∀ b ∈ V, b ∈ orig
  good : Good N (kept.map nrm)
  nz : ∀ b ∈ kept, fi b (lead b) ≠ 0
  ord : kept.Pairwise fun a b => lead a < lead b
  lt : ∀ b ∈ kept, lead b < p
  v1 : ∀ b ∈ V, Sp (kept.map nrm) (fn (iq b))
  v2 : ∀ b ∈ kept, Sp (V.map iq) (fn (iq b))
  dn : det V (kept.map lead).reverse ≠ 0
  vl : V.length = kept.length
  lz : ∀ b ∈ left, ∀ j < p, fi b j = 0
  lo : ∀ b ∈ left, ∃ o ∈ orig, ∃ c : Rat, c ≠ 0 ∧ ∃ v, Sp (V.map iq) v ∧ ∀ i, c * (fi b i : Rat) = (fi o i : Rat) + v i
  pr : ∀ b ∈ left ++ kept, Prim orig b
  so : ∀ o ∈ orig, Sp ((left ++ kept).map iq) (fn (iq o))
section
variable {N : Nat} {orig : List Row} {p : Nat} {left kept V : List Row}
theorem St.first (S : St N orig p left kept V) {b : Row} (hb : b ∈ kept) : first (nrm b) = lead b := first_nrm (S.nz b hb)
/-- a row left is, but for a factor, a row of minors -/
theorem St.minor (S : St N orig p left kept V) {b o : Row} {c : Rat} {v : Nat → Rat} (hb : b ∈ left) (hv : Sp (V.map iq) v) (he : ∀ i, c * (fi b i : Rat) = (fi o i : Rat) + v i) (j : Nat) :
    (det (o :: V) (j :: (kept.map lead).reverse) : Rat) = ((det V (kept.map lead).reverse : Rat) * c) * (fi b j : Rat) := by
  obtain ⟨u, hu, eu⟩ := det_head o V (kept.map lead).reverse
  have hK : ∀ {w}, Sp (V.map iq) w → Sp (kept.map nrm) w := fun hw => Sp.trans (fun x hx => by
    obtain ⟨y, hy, rfl⟩ := List.mem_map.mp hx
    exact S.v1 y hy) hw
  have hz : Sp (kept.map nrm) (fun j => u j + (-(det V (kept.map lead).reverse : Rat)) * v j) := (hK hu).add ((hK hv).mul _)
  have key : ∀ j, (det (o :: V) (j :: (kept.map lead).reverse) : Rat) - ((det V (kept.map lead).reverse : Rat) * c) * (fi b j : Rat) = u j + (-(det V (kept.map lead).reverse : Rat)) * v j := by
    intro j
    rw [eu, fn_iq]
    have := he j
    grind
  have := S.good.red.zero hz (fun x hx => by
    obtain ⟨y, hy, rfl⟩ := List.mem_map.mp hx
    rw [S.first hy, ← key, det_dup _ _ _ (by simp only [List.mem_reverse]; exact List.mem_map.mpr ⟨y, hy, rfl⟩), S.lz b hb _ (S.lt y hy), cast_zero]
    grind) j
  rw [← key] at this
  grind
theorem St.minorK (S : St N orig p left kept V) {b : Row} (hb : b ∈ kept) : ∃ q : Rat, q ≠ 0 ∧ ∀ j, (det V (j :: (kept.map lead).reverse.erase (lead b)) : Rat) = q * (fi b j : Rat) := by
  have hm : lead b ∈ (kept.map lead).reverse := by simp only [List.mem_reverse]; exact List.mem_map.mpr ⟨b, hb, rfl⟩
  obtain ⟨s, hs, mv⟩ := det_move (kept.map lead).reverse (lead b) hm
  have hK : ∀ {w}, Sp (V.map iq) w → Sp (kept.map nrm) w := fun hw => Sp.trans (fun x hx => by
    obtain ⟨y, hy, rfl⟩ := List.mem_map.mp hx
    exact S.v1 y hy) hw
  have hw := hK (det_span V ((kept.map lead).reverse.erase (lead b)))
  have hbK := hK (S.v2 b hb)
  have hb0 := cast_ne (S.nz b hb)
  have hz := (hw.mul (fi b (lead b) : Rat)).add (hbK.mul (-(det V (lead b :: (kept.map lead).reverse.erase (lead b)) : Rat)))
  have hd : (det V (lead b :: (kept.map lead).reverse.erase (lead b)) : Rat) ≠ 0 := by
    rw [mv V]
    refine cast_ne fun z => ?_
    rcases Int.mul_eq_zero.mp z with z | z
    · rcases hs with e | e <;> rw [e] at z <;> omega
    · exact S.dn z
  refine ⟨(det V (lead b :: (kept.map lead).reverse.erase (lead b)) : Rat) / (fi b (lead b) : Rat), by grind, fun j => ?_⟩
  have := S.good.red.zero hz (fun x hx => by
    obtain ⟨y, hy, rfl⟩ := List.mem_map.mp hx
    show _ + _ = (0 : Rat)
    rw [S.first hy, fn_iq]
    by_cases q : lead y = lead b
    · rw [q]; grind
    · have h1 : det V (lead y :: (kept.map lead).reverse.erase (lead b)) = 0 := det_dup _ _ _ ((List.mem_erase_of_ne q).mpr (by simp only [List.mem_reverse]; exact List.mem_map.mpr ⟨y, hy, rfl⟩))
      have h2 : fi b (lead y) = 0 := by
        have := S.good.red.off' (a := nrm b) (b := nrm y) (List.mem_map.mpr ⟨b, hb, rfl⟩) (List.mem_map.mpr ⟨y, hy, rfl⟩) (by rw [S.first hb, S.first hy]; exact fun e => q e.symm)
        rw [S.first hy, fn_nrm] at this
        have h3 : (fi b (lead y) : Rat) = 0 := by grind
        exact_mod_cast h3
      rw [h1, h2, cast_zero]
      grind) j
  rw [fn_iq] at this
  grind
theorem kept_len (S : St N orig p left kept V) : kept.length ≤ p := by
  have hn : (kept.map lead).Nodup := by
    rw [List.Nodup, List.pairwise_map]
    exact S.ord.imp fun h => by omega
  have := GC.nodup_sub (l := kept.map lead) (k := List.range p) hn fun x hx => by
    obtain ⟨y, hy, rfl⟩ := List.mem_map.mp hx
    simpa using S.lt y hy
  simpa using this
/-- **no row grows beyond its minors** -/
theorem St.bound (S : St N orig p left kept V) (hp : p ≤ N) {M : Nat} (hM : 1 ≤ M) (ho : ∀ o ∈ orig, ∀ j, (fi o j).natAbs ≤ M) : ∀ b ∈ left ++ kept, ∀ j, (fi b j).natAbs ≤ ((N + 1) * M) ^ (N + 1) := by
  intro b hb j
  have hkl := kept_len S
  have hbase : 1 ≤ (N + 1) * M := Nat.mul_pos (by omega) hM
  have pw : ∀ k, k ≤ N + 1 → ((N + 1) * M) ^ k ≤ ((N + 1) * M) ^ (N + 1) := fun k hk => Nat.pow_le_pow_right hbase hk
  rcases S.pr b hb with h | h | h
  · refine Nat.le_trans (ho b h j) (Nat.le_trans ?_ (pw 1 (by omega)))
    rw [Nat.pow_one]
    exact Nat.le_mul_of_pos_left _ (by omega)
  · rcases List.mem_append.mp hb with hb | hb
    · obtain ⟨o, oo, c, hc, v, hv, he⟩ := S.lo b hb
      have hd := cast_ne S.dn
      have := prim_le h (w := fun j => det (o :: V) (j :: (kept.map lead).reverse)) (q := (det V (kept.map lead).reverse : Rat) * c) (by intro z; rcases Rat.mul_eq_zero.mp z with z | z; exact hd z; exact hc z) (fun j => S.minor hb hv he j) j
      refine Nat.le_trans this (Nat.le_trans (det_le M (N + 1) _ _ ?_ (by simp [S.vl]; omega)) (pw _ (by simp; omega)))
      intro r hr d _
      refine ho r ?_ d
      rcases List.mem_cons.mp hr with e | hr
      · rw [e]; exact oo
      · exact S.vo r hr
    · obtain ⟨q, hq, he⟩ := S.minorK hb
      have := prim_le h hq he j
      refine Nat.le_trans this (Nat.le_trans (det_le M (N + 1) _ _ ?_ (by rw [S.vl]; omega)) (pw _ (by
        have := List.length_erase_le (a := lead b) (l := (kept.map lead).reverse)
        simp at this ⊢; omega)))
      intro r hr d _
      exact ho r (S.vo r hr) d
  · rw [h j]; simp
theorem mem_pick {k : Nat} {x : Row} (hk : k < left.length) (h : x ∈ left) : x = left.getD k [] ∨ x ∈ left.eraseIdx k := by
  obtain ⟨i, hi, e⟩ := List.getElem_of_mem h
  by_cases q : i = k
  · subst q
    exact Or.inl (by simp [List.getD_eq_getElem?_getD, List.getElem?_eq_getElem hi, e])
  · right
    rw [List.mem_eraseIdx_iff_getElem]
    exact ⟨i, hi, q, e⟩
theorem St.turn (S : St N orig p left kept V) (hpN : p < N) : ∃ V', St N orig (p + 1) (turn (left, kept) p).1 (turn (left, kept) p).2 V' := by
  unfold LA.turn
  simp only
  cases hpk : pick left p with
  | none =>
    refine ⟨V, { S with lt := fun b hb => Nat.lt_succ_of_lt (S.lt b hb), lz := ?_ }⟩
    intro b hb j hj
    by_cases q : j = p
    · subst q
      have := List.findIdx?_eq_none_iff.mp hpk b hb
      simpa using this
    · exact S.lz b hb j (by omega)
  | some k =>
    simp only
    obtain ⟨hk, hbp, _⟩ := List.findIdx?_eq_some_iff_getElem.mp hpk
    have eb : left.getD k [] = left[k] := by simp [List.getD_eq_getElem?_getD, List.getElem?_eq_getElem hk]
    have hbm : left.getD k [] ∈ left := by rw [eb]; exact List.getElem_mem hk
    have hbp : fi (left.getD k []) p ≠ 0 := by rw [eb]; simpa using hbp
    have mp := fun {x : Row} (h : x ∈ left) => mem_pick hk h
    generalize left.getD k [] = b at hbm hbp mp
    have hsub : ∀ x ∈ left.eraseIdx k, x ∈ left := fun x hx => List.mem_of_mem_eraseIdx hx
    generalize left.eraseIdx k = left1 at hsub mp
    have lb := S.lenl b hbm
    have ldb : lead b = p := lead_eq hbp (S.lz b hbm)
    have bq := cast_ne hbp
    obtain ⟨o, oo, c0, hc0, v0, hv0, he0⟩ := S.lo b hbm
    -- what clearing does
    have ck := fun {x : Row} (hx : x ∈ left ++ kept) => clear_ok (N := N) (orig := orig) (row := x) (by' := b) (p := p) (by rcases List.mem_append.mp hx with h | h; exact S.lenl x h; exact S.lenk x h) lb hbp (S.pr x hx)
    -- leads stay
    have hlead : ∀ x ∈ kept, lead (clear x b p) = lead x ∧ fi (clear x b p) (lead x) ≠ 0 := by
      intro x hx
      obtain ⟨_, _, _, c, hc, e⟩ := ck (x := x) (by simp [hx])
      have hlx := S.lt x hx
      have h1 : fi (clear x b p) (lead x) ≠ 0 := by
        intro z
        have := e (lead x)
        rw [z, S.lz b hbm _ hlx, cast_zero] at this
        exact cast_ne (S.nz x hx) (by grind)
      refine ⟨lead_eq h1 fun i hi => ?_, h1⟩
      have := e i
      rw [lead_lt hi, S.lz b hbm i (by omega), cast_zero] at this
      have h3 : (fi (clear x b p) i : Rat) = 0 := by
        have h4 : c * (fi (clear x b p) i : Rat) = 0 := by grind
        rcases Rat.mul_eq_zero.mp h4 with z | z
        · exact absurd z hc
        · exact z
      exact_mod_cast h3
    -- the kept rows, each by its first number, are the specification's next step
    have htk : taken (kept.map nrm) (iq b) = ((kept.map fun r => clear r b p) ++ [b]).map nrm := by
      have hid : lessen (kept.map nrm) (iq b) = iq b := lessen_id (N := N) _ _ (by rw [len_iq, lb]) S.good.len fun x hx => by
        obtain ⟨y, hy, rfl⟩ := List.mem_map.mp hx
        rw [S.first hy, fn_iq, S.lz b hbm _ (S.lt y hy)]
        rfl
      unfold taken
      simp only [hid]
      rw [if_neg]
      · have e1 : (iq b).getD (Wp04.first (iq b)) 0 = (fi b (lead b) : Rat) := fn_iq b _
        rw [e1]
        show (kept.map nrm).map (fun (x : Wp04.Poly) => plus x (scale (-(x.getD (Wp04.first (nrm b)) 0)) (nrm b))) ++ [nrm b] = _
        rw [List.map_append, List.map_map, List.map_map]
        congr 1
        apply List.map_congr_left
        intro x hx
        show plus (nrm x) (scale (-(fn (nrm x) (Wp04.first (nrm b)))) (nrm b)) = nrm (clear x b p)
        obtain ⟨l1, _, _, c, hc, e⟩ := ck (x := x) (by simp [hx])
        obtain ⟨le, ln⟩ := hlead x hx
        have lx := S.lenk x hx
        refine fn_ext (by rw [len_plus _ _ (by rw [len_scale, len_nrm, len_nrm, lx, lb]), len_nrm, len_nrm, lx, l1]) fun i => ?_
        rw [fn_take1 (N := N) (by rw [len_nrm, lx]) (by rw [len_nrm, lb]), first_nrm (by rw [ldb]; exact hbp), fn_nrm, fn_nrm, fn_nrm, fn_nrm, le, ldb]
        have e2 := e i
        have e3 := e (lead x)
        rw [S.lz b hbm _ (S.lt x hx), cast_zero] at e3
        have n1 := cast_ne (S.nz x hx)
        have n2 := cast_ne ln
        grind
      · intro z
        have := any_ne.mp z p
        rw [fn_iq] at this
        exact bq this
    obtain ⟨tg, ts1, ts2⟩ := taken_good (a := iq b) S.good (by rw [len_iq, lb])
    rw [htk] at tg ts1 ts2
    have hleads : (((kept.map fun r => clear r b p) ++ [b]).map lead) = kept.map lead ++ [p] := by
      rw [List.map_append, List.map_map]
      congr 1
      · exact List.map_congr_left fun x hx => (hlead x hx).1
      · simp [ldb]
    have vsub : ∀ {w}, Sp (V.map iq) w → Sp ((o :: V).map iq) w := fun hw => Sp.mono (fun x hx => by simp at hx ⊢; exact Or.inr hx) hw
    have kK : ∀ {w}, Sp (V.map iq) w → Sp (kept.map nrm) w := fun hw => Sp.trans (fun x hx => by
      obtain ⟨y, hy, rfl⟩ := List.mem_map.mp hx
      exact S.v1 y hy) hw
    have kT : ∀ {w}, Sp (kept.map nrm) w → Sp (((kept.map fun r => clear r b p) ++ [b]).map nrm) w := fun hw => Sp.trans (fun x hx => ts2 x (by simp at hx ⊢; exact Or.inl hx)) hw
    have bT : Sp (((kept.map fun r => clear r b p) ++ [b]).map nrm) (fn (iq b)) := ts2 _ (by simp)
    have bV : Sp ((o :: V).map iq) (fn (iq b)) := ((((Sp.mem (l := (o :: V).map iq) (b := iq o) (by simp)).add (vsub hv0)).mul (1 / c0))).eq fun i => by
      rw [fn_iq, fn_iq]
      have := he0 i
      grind
    refine ⟨o :: V, ?_⟩
    refine { lenl := ?_, lenk := ?_, vo := ?_, good := tg, nz := ?_, ord := ?_, lt := ?_, v1 := ?_, v2 := ?_, dn := ?_, vl := ?_, lz := ?_, lo := ?_, pr := ?_, so := ?_ }
    · intro x hx
      obtain ⟨y, hy, rfl⟩ := List.mem_map.mp hx
      exact (ck (x := y) (by simp [hsub y hy])).1
    · intro x hx
      rcases List.mem_append.mp hx with hx | hx
      · obtain ⟨y, hy, rfl⟩ := List.mem_map.mp hx
        exact (ck (x := y) (by simp [hy])).1
      · simp at hx; subst hx; exact lb
    · intro x hx
      rcases List.mem_cons.mp hx with e | hx
      · rw [e]; exact oo
      · exact S.vo x hx
    · intro x hx
      rcases List.mem_append.mp hx with hx | hx
      · obtain ⟨y, hy, rfl⟩ := List.mem_map.mp hx
        rw [(hlead y hy).1]; exact (hlead y hy).2
      · simp at hx; subst hx; rw [ldb]; exact hbp
    · have : (kept.map lead ++ [p]).Pairwise (· < ·) := by
        rw [List.pairwise_append]
        refine ⟨by rw [List.pairwise_map]; exact S.ord, by simp, fun x hx y hy => ?_⟩
        simp at hy; subst hy
        obtain ⟨z, hz, rfl⟩ := List.mem_map.mp hx
        exact S.lt z hz
      rw [← hleads, List.pairwise_map] at this
      exact this
    · intro x hx
      have : lead x ∈ kept.map lead ++ [p] := by rw [← hleads]; exact List.mem_map.mpr ⟨x, hx, rfl⟩
      rcases List.mem_append.mp this with h | h
      · obtain ⟨z, hz, e⟩ := List.mem_map.mp h
        rw [← e]; have := S.lt z hz; omega
      · simp at h; omega
    · intro x hx
      rcases List.mem_cons.mp hx with e | hx
      · subst e
        exact ((bT.mul c0).add ((kT (kK hv0)).mul (-1))).eq fun i => by
          rw [fn_iq, fn_iq]
          have := he0 i
          grind
      · exact kT (S.v1 x hx)
    · intro x hx
      rcases List.mem_append.mp hx with hx | hx
      · obtain ⟨y, hy, rfl⟩ := List.mem_map.mp hx
        obtain ⟨_, _, _, c, hc, e⟩ := ck (x := y) (by simp [hy])
        exact (((vsub (S.v2 y hy)).add (bV.mul (-((fi y p : Rat) / (fi b p : Rat))))).mul (1 / c)).eq fun i => by
          rw [fn_iq, fn_iq, fn_iq]
          have := e i
          grind
      · simp at hx; subst hx; exact bV
    · rw [hleads, List.reverse_append]
      show det (o :: V) (p :: (kept.map lead).reverse) ≠ 0
      intro z
      have := S.minor hbm hv0 he0 p
      rw [z, cast_zero] at this
      have hd := cast_ne S.dn
      grind
    · simp [S.vl]
    · intro x hx j hj
      obtain ⟨y, hy, rfl⟩ := List.mem_map.mp hx
      obtain ⟨_, _, h0, c, hc, e⟩ := ck (x := y) (by simp [hsub y hy])
      by_cases q : j = p
      · rw [q]; exact h0
      · have := e j
        rw [S.lz y (hsub y hy) j (by omega), S.lz b hbm j (by omega), cast_zero] at this
        have h4 : c * (fi (clear y b p) j : Rat) = 0 := by grind
        rcases Rat.mul_eq_zero.mp h4 with z | z
        · exact absurd z hc
        · exact_mod_cast z
    · intro x hx
      obtain ⟨y, hy, rfl⟩ := List.mem_map.mp hx
      obtain ⟨_, _, _, c, hc, e⟩ := ck (x := y) (by simp [hsub y hy])
      obtain ⟨oy, ooy, cy, hcy, vy, hvy, hey⟩ := S.lo y (hsub y hy)
      refine ⟨oy, ooy, cy * c, by intro z; rcases Rat.mul_eq_zero.mp z with z | z; exact hcy z; exact hc z, fun i => vy i + (cy * (-((fi y p : Rat) / (fi b p : Rat)))) * fn (iq b) i, (vsub hvy).add (bV.mul _), fun i => ?_⟩
      show _ = (fi oy i : Rat) + (vy i + (cy * (-((fi y p : Rat) / (fi b p : Rat)))) * fn (iq b) i)
      rw [fn_iq]
      have e1 := e i
      have e2 := hey i
      grind
    · intro x hx
      rcases List.mem_append.mp hx with hx | hx
      · obtain ⟨y, hy, rfl⟩ := List.mem_map.mp hx
        exact (ck (x := y) (by simp [hsub y hy])).2.1
      · rcases List.mem_append.mp hx with hx | hx
        · obtain ⟨y, hy, rfl⟩ := List.mem_map.mp hx
          exact (ck (x := y) (by simp [hy])).2.1
        · simp at hx; subst hx; exact S.pr x (by simp [hbm])
    · intro o' ho'
      refine Sp.trans ?_ (S.so o' ho')
      intro x hx
      obtain ⟨y, hy, rfl⟩ := List.mem_map.mp hx
      have bN : Sp (((left1.map fun r => clear r b p) ++ ((kept.map fun r => clear r b p) ++ [b])).map iq) (fn (iq b)) := Sp.mem (by simp)
      have cl : (clear y b p ∈ (left1.map fun r => clear r b p) ++ ((kept.map fun r => clear r b p) ++ [b])) → Sp (((left1.map fun r => clear r b p) ++ ((kept.map fun r => clear r b p) ++ [b])).map iq) (fn (iq y)) := fun hm => by
        obtain ⟨_, _, _, c, hc, e⟩ := ck (x := y) hy
        have h1 : Sp (((left1.map fun r => clear r b p) ++ ((kept.map fun r => clear r b p) ++ [b])).map iq) (fn (iq (clear y b p))) := Sp.mem (List.mem_map.mpr ⟨_, hm, rfl⟩)
        refine ((h1.mul c).add (bN.mul ((fi y p : Rat) / (fi b p : Rat)))).eq fun i => ?_
        rw [fn_iq, fn_iq, fn_iq]
        have := e i
        grind
      rcases List.mem_append.mp hy with hy' | hy'
      · rcases mp hy' with q | q
        · rw [q]; exact bN
        · exact cl (List.mem_append_left _ (List.mem_map.mpr ⟨y, q, rfl⟩))
      · exact cl (List.mem_append_right _ (List.mem_append_left _ (List.mem_map.mpr ⟨y, hy', rfl⟩)))
end
theorem St.start {N : Nat} {rows : List Row} (h : ∀ b ∈ rows, b.length = N) : St N rows 0 rows [] [] where
  lenl := h
  lenk := by simp
  vo := by simp
  good := ⟨⟨by simp, by simp⟩, by simp⟩
  nz := by simp
  ord := by simp
  lt := by simp
  v1 := by simp
  v2 := by simp
  dn := by simp [det]
  vl := rfl
  lz := by simp
  lo := fun b hb => ⟨b, hb, 1, by decide, fun _ => 0, Sp.zero, fun i => by grind⟩
  pr := fun b hb => Or.inl (by simpa using hb)
  so := fun o ho => Sp.mem (List.mem_map.mpr ⟨o, by simpa using ho, rfl⟩)
/-- the state behind the first p places -/
def elimAt (rows : List Row) (p : Nat) : List Row × List Row := (List.range p).foldl turn (rows, [])
theorem elimAt_succ (rows : List Row) (p : Nat) : elimAt rows (p + 1) = turn (elimAt rows p) p := by
  unfold elimAt
  rw [List.range_succ, List.foldl_append]
  rfl
theorem elim_st {N : Nat} {rows : List Row} (h : ∀ b ∈ rows, b.length = N) : ∀ p, p ≤ N → ∃ V, St N rows p (elimAt rows p).1 (elimAt rows p).2 V
  | 0, _ => ⟨[], St.start h⟩
  | p + 1, hp => by
    obtain ⟨V, S⟩ := elim_st h p (by omega)
    rw [elimAt_succ]
    exact S.turn (by omega)
/-- **the rows kept, each by its first number, are the specification's basis** -/
theorem elim_basis {N : Nat} {rows : List Row} (h : ∀ b ∈ rows, b.length = N) : basis (rows.map iq) = (elimAt rows N).2.map nrm := by
  obtain ⟨V, S⟩ := elim_st h N (Nat.le_refl N)
  generalize (elimAt rows N).1 = left at S
  generalize (elimAt rows N).2 = kept at S
  refine basis_unique (N := N) (fun b hb => ?_) S.good ?_ ?_ ?_
  · obtain ⟨y, hy, rfl⟩ := List.mem_map.mp hb
    rw [len_iq, h y hy]
  · rw [List.pairwise_map]
    refine List.Pairwise.imp_of_mem ?_ S.ord
    intro a b ha hb hab
    rw [S.first ha, S.first hb]
    exact hab
  · intro b hb
    obtain ⟨y, hy, rfl⟩ := List.mem_map.mp hb
    have : Sp (rows.map iq) (fn (iq y)) := Sp.mono (fun x hx => by
      obtain ⟨z, hz, rfl⟩ := List.mem_map.mp hx
      exact List.mem_map.mpr ⟨z, S.vo z hz, rfl⟩) (S.v2 y hy)
    exact (this.mul (1 / (fi y (lead y) : Rat))).eq fun i => by unfold nrm; rw [fn_scale]
  · intro b hb
    obtain ⟨y, hy, rfl⟩ := List.mem_map.mp hb
    refine Sp.trans ?_ (S.so y hy)
    intro x hx
    obtain ⟨z, hz, rfl⟩ := List.mem_map.mp hx
    rcases List.mem_append.mp hz with hz | hz
    · refine Sp.zero.eq fun i => ?_
      rw [fn_iq]
      by_cases hi : i < N
      · rw [S.lz z hz i hi]; rfl
      · rw [fi_ge (by rw [S.lenl z hz]; omega)]; rfl
    · have := Sp.mem (l := kept.map nrm) (b := nrm z) (List.mem_map.mpr ⟨z, hz, rfl⟩)
      refine (this.mul (fi z (lead z) : Rat)).eq fun i => ?_
      rw [fn_nrm, fn_iq]
      have := cast_ne (S.nz z hz)
      grind
/-- the state's rows are bounded -/
theorem elim_bound {N M : Nat} {rows : List Row} (h : ∀ b ∈ rows, b.length = N) (hM : 1 ≤ M) (ho : ∀ o ∈ rows, ∀ j, (fi o j).natAbs ≤ M) {p : Nat} (hp : p ≤ N) :
    ∀ b ∈ (elimAt rows p).1 ++ (elimAt rows p).2, b.length = N ∧ ∀ j, (fi b j).natAbs ≤ ((N + 1) * M) ^ (N + 1) := by
  obtain ⟨V, S⟩ := elim_st h p hp
  intro b hb
  refine ⟨?_, S.bound hp hM ho b hb⟩
  rcases List.mem_append.mp hb with h | h
  · exact S.lenl b h
  · exact S.lenk b h
/-- each kept row has a first number -/
theorem elim_nz {N : Nat} {rows : List Row} (h : ∀ b ∈ rows, b.length = N) : ∀ b ∈ (elimAt rows N).2, fi b (lead b) ≠ 0 ∧ lead b < N := by
  obtain ⟨V, S⟩ := elim_st h N (Nat.le_refl N)
  exact fun b hb => ⟨S.nz b hb, S.lt b hb⟩
end LA
/-! the program's way to the group, in plain lists -/
namespace GC
open Wp04
def Le (B : Nat) (t : Tab) : Prop := ∀ z ∈ t, z.natAbs ≤ B
theorem abs3 {a b c : Int} {A B C : Nat} (h1 : a.natAbs ≤ A) (h2 : b.natAbs ≤ B) (h3 : c.natAbs ≤ C) : (a + b + c).natAbs ≤ A + B + C := by omega
theorem abs2 {a b : Int} {A B : Nat} (h1 : a.natAbs ≤ A) (h2 : b.natAbs ≤ B) : (a + b).natAbs ≤ A + B := by omega
theorem absm {a b : Int} {B : Nat} (h1 : a.natAbs ≤ 2) (h2 : b.natAbs ≤ B) : (a * b).natAbs ≤ 2 * B := by
  rw [Int.natAbs_mul]
  exact Nat.mul_le_mul h1 h2
theorem le_then {n B : Nat} (hn : n = 2 ∨ n = 3) {p g : Tab} (hp : p.length = n * n) (hg : g.length = n * n) (bp : Le B p) (bg : Le 2 g) : Le (6 * B) (then_ n p g) := by
  rcases hn with rfl | rfl
  · obtain ⟨a, b, c, d, rfl⟩ := LA.four hp
    obtain ⟨a', b', c', d', rfl⟩ := LA.four hg
    rw [LA.then2]
    have q := fun x (hx : x ∈ [a, b, c, d]) y (hy : y ∈ [a', b', c', d']) => absm (bg y hy) (bp x hx)
    intro z hz
    simp only [List.mem_cons, List.not_mem_nil, or_false] at hz
    rcases hz with rfl | rfl | rfl | rfl <;> (refine Nat.le_trans (abs2 (q _ (by simp) _ (by simp)) (q _ (by simp) _ (by simp))) (by omega))
  · obtain ⟨a, b, c, d, e, f, g1, h, i, rfl⟩ := LA.nine hp
    obtain ⟨a', b', c', d', e', f', g', h', i', rfl⟩ := LA.nine hg
    rw [LA.then3]
    have q := fun x (hx : x ∈ [a, b, c, d, e, f, g1, h, i]) y (hy : y ∈ [a', b', c', d', e', f', g', h', i']) => absm (bg y hy) (bp x hx)
    intro z hz
    simp only [List.mem_cons, List.not_mem_nil, or_false] at hz
    rcases hz with rfl | rfl | rfl | rfl | rfl | rfl | rfl | rfl | rfl <;> (refine Nat.le_trans (abs3 (q _ (by simp) _ (by simp)) (q _ (by simp) _ (by simp)) (q _ (by simp) _ (by simp))) (by omega))
theorem le_ident (n : Nat) : Le 1 (ident n) := by
  intro z hz
  unfold ident at hz
  obtain ⟨i, _, hz⟩ := List.mem_flatMap.mp hz
  obtain ⟨j, _, rfl⟩ := List.mem_map.mp hz
  split <;> simp
/-- what is found, each at its place no greater than its place lets it be -/
structure FI (n : Nat) (gens found : List Tab) : Prop where
  nd : found.Nodup
  id : ident n ∈ found
  re : ∀ p ∈ found, Reach n gens p
  bd : ∀ i p, found[i]? = some p → Le (6 ^ i) p
structure GensIn (n : Nat) (gens : List Tab) : Prop where
  hn : n = 2 ∨ n = 3
  len : ∀ g ∈ gens, g.length = n * n
  two : ∀ g ∈ gens, Le 2 g
theorem FI.start (n : Nat) (gens : List Tab) : FI n gens [ident n] where
  nd := by simp
  id := by simp
  re := fun p hp => by simp at hp; subst hp; exact .id
  bd := fun i p h => by
    match i, h with
    | 0, h => simp at h; subst h; exact le_ident n
    | i + 1, h => simp at h
theorem FI.more {n : Nat} {gens found : List Tab} (G : GensIn n gens) (F : FI n gens found) {i : Nat} {p g : Tab} (hp : found[i]? = some p) (hg : g ∈ gens) (hne : then_ n p g ∉ found) : FI n gens (found ++ [then_ n p g]) where
  nd := by
    rw [List.nodup_append]
    refine ⟨F.nd, by simp, fun a ha b hb e => ?_⟩
    simp at hb; subst hb; subst e; exact hne ha
  id := by simp [F.id]
  re := fun q hq => by
    rcases List.mem_append.mp hq with h | h
    · exact F.re q h
    · simp at h; subst h; exact .step (F.re p (List.mem_of_getElem? hp)) hg
  bd := fun j q h => by
    rw [List.getElem?_append] at h
    split at h
    · exact F.bd j q h
    · rename_i hj
      have hi : i < found.length := (List.getElem?_eq_some_iff.mp hp).1
      have hj2 : j - found.length = 0 := by
        rcases Nat.eq_zero_or_pos (j - found.length) with h0 | h0
        · exact h0
        · rw [List.getElem?_eq_none (by simp; omega)] at h; cases h
      rw [hj2] at h
      simp at h; subst h
      have := le_then G.hn (len_reach (F.re p (List.mem_of_getElem? hp))) (G.len g hg) (F.bd i p hp) (G.two g hg)
      intro z hz
      refine Nat.le_trans (this z hz) ?_
      rw [← Nat.pow_succ']
      exact Nat.pow_le_pow_right (by decide) (by omega)
theorem FI.short {n : Nat} {gens found : List Tab} (F : FI n gens found) (h : found.length ≤ 100) {p : Tab} (hp : p ∈ found) : ∀ z ∈ p, z.natAbs < 2 ^ 1000 := by
  obtain ⟨i, hi, e⟩ := List.getElem_of_mem hp
  intro z hz
  have := F.bd i p (by rw [List.getElem?_eq_getElem hi, e]) z hz
  calc z.natAbs ≤ 6 ^ i := this
    _ ≤ 6 ^ 100 := Nat.pow_le_pow_right (by decide) (by omega)
    _ < 2 ^ 1000 := by decide +kernel
/-- closed up to a place -/
def Cl (n : Nat) (gens found : List Tab) (k : Nat) : Prop := ∀ i p, i < k → found[i]? = some p → ∀ g ∈ gens, then_ n p g ∈ found
theorem FI.closed {n : Nat} {gens found : List Tab} (c : Cl n gens found found.length) : ∀ p ∈ found, ∀ g ∈ gens, then_ n p g ∈ found := fun p hp g hg => by
  obtain ⟨i, hi, e⟩ := List.getElem_of_mem hp
  exact c i p hi (by rw [List.getElem?_eq_getElem hi, e]) g hg
/-- the numbers of a group of at most 48 are short: it is found in at most 48 steps -/
theorem grow_le {n : Nat} {gens : List Tab} (G : GensIn n gens) : ∀ (f : Nat) (all new : List Tab), (∀ p ∈ new, p ∈ all) → (∀ p ∈ all, p.length = n * n ∧ Le (6 ^ all.length) p) → ∀ p ∈ grow n gens f all new, p.length = n * n ∧ Le (6 ^ (grow n gens f all new).length) p
  | 0, all, new, _, h => by unfold grow; exact h
  | f + 1, all, new, hs, h => by
    unfold grow
    split
    · exact h
    · cases new with
      | nil => exact h
      | cons q new =>
        simp only
        obtain ⟨_, _, a3, _, _⟩ := pick_spec all ((q :: new).flatMap fun (p : Tab) => gens.map fun (g : Tab) => then_ n p g) [] (by simp) (by simp)
        generalize ((q :: new).flatMap fun (p : Tab) => gens.map fun (g : Tab) => then_ n p g).foldl (fun (l : List Tab) (p : Tab) => if all.contains p = true ∨ l.contains p = true then l else l ++ [p]) [] = r at a3
        refine grow_le G f (all ++ r) r (fun p hp => by simp [hp]) fun p hp => ?_
        rcases List.mem_append.mp hp with hp | hp
        · refine ⟨(h p hp).1, fun z hz => Nat.le_trans ((h p hp).2 z hz) (Nat.pow_le_pow_right (by decide) (by simp))⟩
        · rcases a3 p hp with z | z
          · simp at z
          · obtain ⟨u, hu, hm⟩ := List.mem_flatMap.mp z
            obtain ⟨g, hg, rfl⟩ := List.mem_map.mp hm
            refine ⟨len_then .., fun z hz => ?_⟩
            have hu2 := h u (hs u hu)
            refine Nat.le_trans (le_then G.hn hu2.1 (G.len g hg) hu2.2 (G.two g hg) z hz) ?_
            rw [← Nat.pow_succ']
            have : 0 < r.length := List.length_pos_of_mem hp
            exact Nat.pow_le_pow_right (by decide) (by simp; omega)
theorem group_short {n : Nat} {gens : List Tab} (G : GensIn n gens) (h48 : (group n gens).length ≤ 48) {p : Tab} (hp : p ∈ group n gens) : ∀ z ∈ p, z.natAbs < 2 ^ 200 := by
  have hg := (group_spec n gens).2
  have hw : p ∈ whole n gens := hg.mem_iff.mp hp
  have := grow_le G 100 [ident n] [ident n] (fun p hp => hp) (fun p hp => by
    simp at hp; subst hp
    exact ⟨len_ident n, fun z hz => Nat.le_trans (le_ident n z hz) (by simp)⟩) p hw
  intro z hz
  have h1 := this.2 z hz
  have hl : (grow n gens 100 [ident n] [ident n]).length ≤ 48 := by
    have := hg.length_eq
    unfold whole at this
    omega
  calc z.natAbs ≤ _ := h1
    _ ≤ 6 ^ 48 := Nat.pow_le_pow_right (by decide) hl
    _ < 2 ^ 200 := by decide +kernel
end GC
/-! the program's way to the monomials -/
namespace LA
open Wp04
def more (d : Nat) (m : List Nat) : List (List Nat) := ((List.range (d - m.sum + 1)).reverse).map fun k => m ++ [k]
def stg (d : Nat) : Nat → List (List Nat)
  | 0 => [[]]
  | u + 1 => (stg d u).flatMap (more d)
theorem monos_one (e : Nat) : monos 1 e = [[e]] := by
  show ((List.range (e + 1)).reverse).flatMap (fun (k : Nat) => (monos 0 (e - k)).map fun (m : List Nat) => k :: m) = [[e]]
  rw [List.range_succ, List.reverse_append]
  show (monos 0 (e - e)).map (fun m => e :: m) ++ ((List.range e).reverse).flatMap (fun (k : Nat) => (monos 0 (e - k)).map fun (m : List Nat) => k :: m) = _
  have h0 : ∀ l : List Nat, (∀ k ∈ l, k < e) → l.flatMap (fun (k : Nat) => (monos 0 (e - k)).map fun (m : List Nat) => k :: m) = [] := by
    intro l h
    rw [List.flatMap_eq_nil_iff]
    intro k hk
    have := h k hk
    unfold monos
    rw [if_neg (by omega)]
    rfl
  rw [h0 _ (fun k hk => by simpa using hk), Nat.sub_self]
  rfl
theorem monos_two (d : Nat) : monos 2 d = ((List.range (d + 1)).reverse).map fun k => [k, d - k] := by
  show ((List.range (d + 1)).reverse).flatMap (fun (k : Nat) => (monos 1 (d - k)).map fun (m : List Nat) => k :: m) = _
  rw [List.map_eq_flatMap]
  congr 1
  funext k
  rw [monos_one]
  rfl
theorem stg_monos {n d : Nat} (hn : n = 2 ∨ n = 3) : (stg d (n - 1)).map (fun m => m ++ [d - m.sum]) = monos n d := by
  rcases hn with rfl | rfl
  · rw [monos_two]
    show (([[]] : List (List Nat)).flatMap (more d)).map _ = _
    simp [more]
  · show ((([[]] : List (List Nat)).flatMap (more d)).flatMap (more d)).map _ = ((List.range (d + 1)).reverse).flatMap (fun (k : Nat) => (monos 2 (d - k)).map fun (m : List Nat) => k :: m)
    simp only [more, List.flatMap_cons, List.flatMap_nil, List.append_nil, List.sum_nil, Nat.sub_zero, List.nil_append, List.map_flatMap, List.flatMap_map]
    congr 1
    funext k
    rw [monos_two]
    simp only [List.map_map, List.sum_cons, List.sum_nil, Nat.add_zero]
    apply List.map_congr_left
    intro j _
    simp
    omega
theorem stg_sum (d : Nat) : ∀ u, ∀ m ∈ stg d u, m.sum ≤ d ∧ m.length = u
  | 0, m, h => by simp [stg] at h; subst h; simp
  | u + 1, m, h => by
    obtain ⟨m', hm', h2⟩ := List.mem_flatMap.mp h
    obtain ⟨k, hk, rfl⟩ := List.mem_map.mp h2
    have := stg_sum d u m' hm'
    simp at hk
    simp
    omega
theorem more_len (d : Nat) (m : List Nat) : (more d m).length ≤ d + 1 := by
  simp [more]
theorem stg_len (d : Nat) : ∀ u, (stg d u).length ≤ (d + 1) ^ u
  | 0 => by simp [stg]
  | u + 1 => by
    have ih := stg_len d u
    have : ∀ l : List (List Nat), (l.flatMap (more d)).length ≤ l.length * (d + 1) := by
      intro l
      induction l with
      | nil => simp
      | cons a l ih2 =>
        have := more_len d a
        rw [List.flatMap_cons, List.length_append, List.length_cons, Nat.add_mul]
        omega
    exact Nat.le_trans (this _) (by rw [Nat.pow_succ]; exact Nat.mul_le_mul_right _ ih)
end LA
/-! the program's polynomials: dicts from monomials to whole numbers -/
namespace LA
open Wp04
abbrev DP := List (List Nat × Int)
def dget (D : DP) (m : List Nat) : Int := ((D.find? fun p => decide (p.1 = m)).map (·.2)).getD 0
def dput (D : DP) (m : List Nat) (c : Int) : DP := if (D.any fun p => decide (p.1 = m)) = true then D.map (fun p => if p.1 = m then (p.1, c) else p) else D ++ [(m, c)]
def dadd (D : DP) (m : List Nat) (c : Int) : DP := dput D m (dget D m + c)
def bump (m : List Nat) (i : Nat) : List Nat := m.set i (m.getD i 0 + 1)
/-- the places that are not 0 -/
def someOf (row : List Int) : List Nat := (List.range row.length).filter fun i => decide (row.getD i 0 ≠ 0)
def trow1 (row : List Int) (A : DP) (p : List Nat × Int) : DP := (someOf row).foldl (fun A i => dadd A (bump p.1 i) (p.2 * row.getD i 0)) A
def timesRow (D : DP) (row : List Int) : DP := D.foldl (trow1 row) []
def dev (D : DP) (x : List Rat) : Rat := (D.map fun p => (p.2 : Rat) * mev p.1 x).sum
def l1 (D : DP) : Nat := (D.map fun p => p.2.natAbs).sum
def Keys (n d : Nat) (D : DP) : Prop := (D.map (·.1)).Nodup ∧ ∀ p ∈ D, p.1 ∈ monos n d
theorem any_key {D : DP} {m : List Nat} : (D.any fun p => decide (p.1 = m)) = true ↔ m ∈ D.map (·.1) := by
  simp [List.any_eq_true]
theorem dget_none {D : DP} {m : List Nat} (h : m ∉ D.map (·.1)) : dget D m = 0 := by
  unfold dget
  rw [List.find?_eq_none.mpr]
  · rfl
  · intro p hp
    simp
    intro e
    exact h (List.mem_map.mpr ⟨p, hp, e⟩)
theorem dget_cons {p : List Nat × Int} {D : DP} {m : List Nat} : dget (p :: D) m = if p.1 = m then p.2 else dget D m := by
  unfold dget
  rw [List.find?_cons]
  by_cases c : p.1 = m
  · simp [c]
  · simp [c]
theorem dadd_cases (D : DP) (m : List Nat) (c : Int) (hn : (D.map (·.1)).Nodup) : ((dadd D m c).map (·.1)).Nodup ∧ (∀ p ∈ dadd D m c, p.1 = m ∨ p.1 ∈ D.map (·.1)) ∧ (∀ x, dev (dadd D m c) x = dev D x + (c : Rat) * mev m x) ∧ l1 (dadd D m c) ≤ l1 D + c.natAbs := by
  unfold dadd dput
  by_cases h : (D.any fun p => decide (p.1 = m)) = true
  · rw [if_pos h]
    have hk : (D.map fun p => if p.1 = m then (p.1, dget D m + c) else p).map (·.1) = D.map (·.1) := by
      rw [List.map_map]
      apply List.map_congr_left
      intro p _
      show (if p.1 = m then (p.1, dget D m + c) else p).1 = p.1
      split <;> rfl
    refine ⟨by rw [hk]; exact hn, fun p hp => ?_, ?_⟩
    · right
      rw [← hk]
      exact List.mem_map.mpr ⟨p, hp, rfl⟩
    · have hm := any_key.mp h
      clear hk h
      induction D with
      | nil => simp at hm
      | cons q D ih =>
        have hn' := List.nodup_cons.mp (show (q.1 :: D.map (·.1)).Nodup from hn)
        by_cases e : q.1 = m
        · have hno : m ∉ D.map (·.1) := by rw [← e]; exact hn'.1
          have hid : D.map (fun p => if p.1 = m then (p.1, dget (q :: D) m + c) else p) = D := by
            rw [List.map_congr_left (g := fun p => p)]
            · simp
            · intro p hp
              rw [if_neg]
              intro e2
              exact hno (List.mem_map.mpr ⟨p, hp, e2⟩)
          rw [List.map_cons, hid, if_pos e, dget_cons, if_pos e]
          constructor
          · intro x
            simp only [dev, List.map_cons, List.sum_cons, Rat.intCast_add, e]
            grind
          · simp only [l1, List.map_cons, List.sum_cons]
            omega
        · have hm2 : m ∈ D.map (·.1) := by
            have : m = q.1 ∨ m ∈ D.map (·.1) := by simpa using hm
            rcases this with z | z
            · exact absurd z.symm e
            · exact z
          obtain ⟨i1, i2⟩ := ih hn'.2 hm2
          rw [List.map_cons, if_neg e, dget_cons, if_neg e]
          constructor
          · intro x
            have := i1 x
            simp only [dev, List.map_cons, List.sum_cons] at this ⊢
            rw [this]
            grind
          · simp only [l1, List.map_cons, List.sum_cons] at i2 ⊢
            omega
  · rw [if_neg h]
    have hm : m ∉ D.map (·.1) := fun z => h (any_key.mpr z)
    refine ⟨?_, fun p hp => ?_, fun x => ?_, ?_⟩
    · rw [List.map_append, List.nodup_append]
      refine ⟨hn, by simp, fun a ha b hb e => ?_⟩
      simp at hb; subst hb; subst e; exact hm ha
    · rcases List.mem_append.mp hp with hp | hp
      · exact Or.inr (List.mem_map.mpr ⟨p, hp, rfl⟩)
      · simp at hp; subst hp; exact Or.inl rfl
    · rw [dget_none hm]
      simp [dev, List.map_append, List.sum_append]
      grind
    · rw [dget_none hm]
      simp [l1, List.map_append, List.sum_append]
theorem bump_mem {n d i : Nat} {m : List Nat} (hm : m ∈ monos n d) (hi : i < n) : bump m i ∈ monos n (d + 1) := by
  obtain ⟨h1, h2⟩ := mem_monos.mp hm
  refine mem_monos.mpr ⟨by simp [bump, h1], ?_⟩
  clear hm
  subst h1 h2
  unfold bump
  induction m generalizing i with
  | nil => simp at hi
  | cons k m ih =>
    cases i with
    | zero => simp; omega
    | succ i =>
      have := ih (i := i) (by simpa using hi)
      simp only [List.set_cons_succ, List.sum_cons, List.getD_cons_succ] at this ⊢
      omega
theorem mev_bump : ∀ {m : List Nat} {x : List Rat} {i : Nat}, m.length = x.length → i < m.length → mev (bump m i) x = mev m x * fn x i
  | [], _, _, _, h => by simp at h
  | _ :: _, [], _, h, _ => by simp at h
  | k :: m, y :: x, 0, _, _ => by
    show y ^ (k + 1) * mev m x = (y ^ k * mev m x) * y
    rw [Rat.pow_succ]
    grind
  | k :: m, y :: x, i + 1, h, hi => by
    have := mev_bump (m := m) (x := x) (i := i) (by simpa using h) (by simpa using hi)
    unfold bump at this ⊢
    show y ^ k * mev (m.set i (m.getD i 0 + 1)) x = (y ^ k * mev m x) * fn x i
    rw [this]
    grind
theorem trow1_facts {n d : Nat} {row : List Int} (hrow : row.length = n) {p : List Nat × Int} (hp : p.1 ∈ monos n d) : ∀ (l : List Nat), (∀ i ∈ l, i < n) → ∀ A : DP, Keys n (d + 1) A →
    Keys n (d + 1) (l.foldl (fun A i => dadd A (bump p.1 i) (p.2 * row.getD i 0)) A) ∧
    (∀ x, x.length = n → dev (l.foldl (fun A i => dadd A (bump p.1 i) (p.2 * row.getD i 0)) A) x = dev A x + ((p.2 : Rat) * mev p.1 x) * (l.map fun i => (row.getD i 0 : Rat) * fn x i).sum) ∧
    l1 (l.foldl (fun A i => dadd A (bump p.1 i) (p.2 * row.getD i 0)) A) ≤ l1 A + p.2.natAbs * (l.map fun i => (row.getD i 0).natAbs).sum
  | [], _, A, hA => ⟨hA, fun x _ => by simp; grind, by simp⟩
  | i :: l, hl, A, hA => by
    obtain ⟨c1, c2, c3, c4⟩ := dadd_cases A (bump p.1 i) (p.2 * row.getD i 0) hA.1
    have hb := bump_mem hp (hl i (by simp))
    obtain ⟨t1, t2, t3⟩ := trow1_facts hrow hp l (fun j hj => hl j (by simp [hj])) (dadd A (bump p.1 i) (p.2 * row.getD i 0)) ⟨c1, fun q hq => by
      rcases c2 q hq with e | e
      · rw [e]; exact hb
      · obtain ⟨q', hq', e'⟩ := List.mem_map.mp e
        rw [← e']; exact hA.2 q' hq'⟩
    refine ⟨t1, fun x hx => ?_, ?_⟩
    · rw [List.foldl_cons, t2 x hx, c3, mev_bump (by rw [(mem_monos.mp hp).1, hx]) (by rw [(mem_monos.mp hp).1]; exact hl i (by simp)), List.map_cons, List.sum_cons, Rat.intCast_mul]
      grind
    · rw [List.foldl_cons, List.map_cons, List.sum_cons, Nat.mul_add]
      rw [Int.natAbs_mul] at c4
      omega
def rl1 (row : List Int) : Nat := ((List.range row.length).map fun i => (row.getD i 0).natAbs).sum
theorem some_sumR (row : List Int) (x : List Rat) : ∀ l : List Nat, ((l.filter fun i => decide (row.getD i 0 ≠ 0)).map fun i => (row.getD i 0 : Rat) * fn x i).sum = (l.map fun i => (row.getD i 0 : Rat) * fn x i).sum
  | [] => rfl
  | i :: l => by
    have ih := some_sumR row x l
    rw [List.filter_cons]
    by_cases c : row.getD i 0 = 0
    · rw [if_neg (by rw [decide_eq_true_eq]; exact fun h => h c), ih, List.map_cons, List.sum_cons, c]
      have : ((0 : Int) : Rat) = 0 := rfl
      rw [this]
      grind
    · rw [if_pos (decide_eq_true c), List.map_cons, List.map_cons, List.sum_cons, List.sum_cons, ih]
theorem some_sumN (row : List Int) : ∀ l : List Nat, ((l.filter fun i => decide (row.getD i 0 ≠ 0)).map fun i => (row.getD i 0).natAbs).sum = (l.map fun i => (row.getD i 0).natAbs).sum
  | [] => rfl
  | i :: l => by
    have ih := some_sumN row l
    rw [List.filter_cons]
    by_cases c : row.getD i 0 = 0
    · rw [if_neg (by rw [decide_eq_true_eq]; exact fun h => h c), ih, List.map_cons, List.sum_cons, c]
      simp
    · rw [if_pos (decide_eq_true c), List.map_cons, List.map_cons, List.sum_cons, List.sum_cons, ih]
theorem some_lt {row : List Int} {i : Nat} (h : i ∈ someOf row) : i < row.length ∧ row.getD i 0 ≠ 0 := by
  unfold someOf at h
  rw [List.mem_filter, List.mem_range] at h
  exact ⟨h.1, of_decide_eq_true h.2⟩
theorem some_len (row : List Int) : (someOf row).length ≤ row.length := by
  have := List.length_filter_le (fun i => decide (row.getD i 0 ≠ 0)) (List.range row.length)
  rw [List.length_range] at this
  exact this
theorem timesRow_facts {n d : Nat} {row : List Int} (hrow : row.length = n) : ∀ (D A : DP), (∀ p ∈ D, p.1 ∈ monos n d) → Keys n (d + 1) A →
    Keys n (d + 1) (D.foldl (trow1 row) A) ∧ (∀ x, x.length = n → dev (D.foldl (trow1 row) A) x = dev A x + dev D x * ((List.range n).map fun i => (row.getD i 0 : Rat) * fn x i).sum) ∧
    l1 (D.foldl (trow1 row) A) ≤ l1 A + l1 D * rl1 row
  | [], A, _, hA => ⟨hA, fun x _ => by simp [dev]; grind, by simp [l1]⟩
  | p :: D, A, hD, hA => by
    obtain ⟨a1, a2, a3⟩ := trow1_facts hrow (hD p (by simp)) (someOf row) (fun i hi => by have := (some_lt hi).1; omega) A hA
    obtain ⟨b1, b2, b3⟩ := timesRow_facts hrow D (trow1 row A p) (fun q hq => hD q (by simp [hq])) a1
    refine ⟨b1, fun x hx => ?_, ?_⟩
    · rw [List.foldl_cons, b2 x hx]
      have h2 := a2 x hx
      have h3 := some_sumR row x (List.range row.length)
      unfold someOf at h2
      rw [h3, hrow] at h2
      unfold trow1 someOf
      rw [hrow, h2]
      simp only [dev, List.map_cons, List.sum_cons]
      grind
    · have a3' : l1 (trow1 row A p) ≤ l1 A + p.2.natAbs * rl1 row := by
        have h3 := some_sumN row (List.range row.length)
        unfold someOf at a3
        rw [h3] at a3
        exact a3
      simp only [List.foldl_cons]
      simp only [l1, List.map_cons, List.sum_cons] at b3 a3' ⊢
      rw [Nat.add_mul]
      omega
/-- the row of an unknown -/
def rowOf (n : Nat) (t : List Int) (i : Nat) : List Int := (t.drop (i * n)).take n
def fst1 (m : List Nat) : Nat := m.findIdx fun k => decide (k ≠ 0)
def lower (m : List Nat) : List Nat := m.set (fst1 m) (m.getD (fst1 m) 0 - 1)
/-- what a table moves a monomial to -/
def mvd (n : Nat) (t : List Int) : Nat → List Nat → DP
  | 0, _ => [(List.replicate n 0, 1)]
  | k + 1, m => timesRow (mvd n t k (lower m)) (rowOf n t (fst1 m))
theorem fst1_facts {m : List Nat} (h : 0 < m.sum) : fst1 m < m.length ∧ m.getD (fst1 m) 0 ≠ 0 := by
  have hl : fst1 m < m.length := by
    unfold fst1
    rw [List.findIdx_lt_length]
    false_or_by_contra
    rename_i hn
    have h0 : ∀ k ∈ m, k = 0 := fun k hk => by
      false_or_by_contra
      rename_i h2
      exact hn ⟨k, hk, by simp [h2]⟩
    have : ∀ l : List Nat, (∀ k ∈ l, k = 0) → l.sum = 0 := fun l => by
      induction l with
      | nil => intro _; rfl
      | cons a l ih => intro hl; rw [List.sum_cons, hl a (by simp), ih fun k hk => hl k (by simp [hk])]
    rw [this m h0] at h
    omega
  refine ⟨hl, ?_⟩
  have := List.findIdx_getElem (p := fun k : Nat => decide (k ≠ 0)) (xs := m) (w := hl)
  simp only [decide_eq_true_eq] at this
  rw [List.getD_eq_getElem?_getD, List.getElem?_eq_getElem hl]
  exact this
theorem bump_lower {m : List Nat} (h : 0 < m.sum) : bump (lower m) (fst1 m) = m := by
  obtain ⟨h1, h2⟩ := fst1_facts h
  unfold bump lower
  rw [List.set_set]
  apply List.ext_getElem?
  intro j
  rw [List.getElem?_set]
  by_cases c : fst1 m = j
  · subst c
    rw [if_pos rfl, if_pos h1, List.getElem?_eq_getElem h1]
    congr 1
    rw [List.getD_eq_getElem?_getD, List.getElem?_set, if_pos rfl, if_pos h1]
    rw [List.getD_eq_getElem?_getD, List.getElem?_eq_getElem h1] at h2 ⊢
    simp at h2 ⊢
    omega
  · rw [if_neg c]
theorem lower_mem {n d : Nat} {m : List Nat} (hm : m ∈ monos n (d + 1)) : lower m ∈ monos n d := by
  obtain ⟨h1, h2⟩ := mem_monos.mp hm
  have hs : 0 < m.sum := by omega
  obtain ⟨f1, f2⟩ := fst1_facts hs
  have hl : (lower m).length = n := by simp [lower, h1]
  have hb := bump_mem (n := n) (d := (lower m).sum) (i := fst1 m) (mem_monos.mpr ⟨hl, rfl⟩) (by omega)
  rw [bump_lower hs] at hb
  have := (mem_monos.mp hb).2
  exact mem_monos.mpr ⟨hl, by omega⟩
theorem rowOf_sum {n : Nat} (hn : n = 2 ∨ n = 3) {t : List Int} (ht : t.length = n * n) {x : List Rat} (hx : x.length = n) {i : Nat} (hi : i < n) :
    (rowOf n t i).length = n ∧ ((List.range n).map fun j => ((rowOf n t i).getD j 0 : Rat) * fn x j).sum = fn (ap n t x) i := by
  rcases hn with rfl | rfl
  · obtain ⟨a, b, c, e, rfl⟩ := four ht
    match x, hx with
    | [x, y], _ =>
      rw [ap2]
      match i, hi with
      | 0, _ => simp [rowOf, List.range_succ, fn]; grind
      | 1, _ => simp [rowOf, List.range_succ, fn]; grind
  · obtain ⟨a, b, c, d, e, f, g, h, k, rfl⟩ := nine ht
    match x, hx with
    | [x, y, z], _ =>
      rw [ap3]
      match i, hi with
      | 0, _ => simp [rowOf, List.range_succ, fn]; grind
      | 1, _ => simp [rowOf, List.range_succ, fn]; grind
      | 2, _ => simp [rowOf, List.range_succ, fn]; grind
theorem rowOf_l1 {n B : Nat} (hn : n = 2 ∨ n = 3) {t : List Int} (ht : t.length = n * n) (hB : ∀ z ∈ t, z.natAbs ≤ B) {i : Nat} (hi : i < n) : rl1 (rowOf n t i) ≤ 3 * B := by
  rcases hn with rfl | rfl
  · obtain ⟨a, b, c, e, rfl⟩ := four ht
    have h := fun z hz => hB z hz
    simp at h
    match i, hi with
    | 0, _ => simp [rl1, rowOf, List.range_succ]; omega
    | 1, _ => simp [rl1, rowOf, List.range_succ]; omega
  · obtain ⟨a, b, c, d, e, f, g, hh, k, rfl⟩ := nine ht
    have h := fun z hz => hB z hz
    simp at h
    match i, hi with
    | 0, _ => simp [rl1, rowOf, List.range_succ]; omega
    | 1, _ => simp [rl1, rowOf, List.range_succ]; omega
    | 2, _ => simp [rl1, rowOf, List.range_succ]; omega
theorem mvd_facts {n : Nat} (hn : n = 2 ∨ n = 3) {t : List Int} (ht : t.length = n * n) {B : Nat} (hB : ∀ z ∈ t, z.natAbs ≤ B) : ∀ (d : Nat) (m : List Nat), m ∈ monos n d →
    Keys n d (mvd n t d m) ∧ (∀ x, x.length = n → dev (mvd n t d m) x = mev m (ap n t x)) ∧ l1 (mvd n t d m) ≤ (3 * B) ^ d
  | 0, m, hm => by
    rw [monos_zero] at hm
    simp at hm
    subst hm
    refine ⟨⟨by simp [mvd], fun p hp => ?_⟩, fun x _ => ?_, by simp [mvd, l1]⟩
    · simp [mvd] at hp; subst hp; rw [monos_zero]; simp
    · simp [mvd, dev, mev_zero]
      grind
  | d + 1, m, hm => by
    obtain ⟨g1, g2⟩ := mem_monos.mp hm
    have hs : 0 < m.sum := by omega
    obtain ⟨f1, f2⟩ := fst1_facts hs
    obtain ⟨k1, k2, k3⟩ := mvd_facts hn ht hB d (lower m) (lower_mem hm)
    have hrl := (rowOf_sum hn ht (x := List.replicate n 0) (by simp) (i := fst1 m) (by omega)).1
    obtain ⟨a1, a2, a3⟩ := timesRow_facts (n := n) (d := d) hrl (mvd n t d (lower m)) [] k1.2 ⟨by simp, by simp⟩
    refine ⟨a1, fun x hx => ?_, ?_⟩
    · show dev (timesRow (mvd n t d (lower m)) (rowOf n t (fst1 m))) x = _
      unfold timesRow
      rw [a2 x hx, k2 x hx, (rowOf_sum hn ht hx (i := fst1 m) (by omega)).2]
      have e := mev_bump (m := lower m) (x := ap n t x) (i := fst1 m) (by simp [lower, g1, len_ap]) (by simp [lower]; omega)
      rw [bump_lower hs] at e
      rw [e]
      simp [dev]
      grind
    · refine Nat.le_trans a3 ?_
      rw [Nat.pow_succ]
      simp only [l1, List.map_nil, List.sum_nil, Nat.zero_add]
      exact Nat.mul_le_mul k3 (rowOf_l1 hn ht hB (by omega))
/-- the row of its numbers -/
def coefs (n d : Nat) (D : DP) : List Int := (monos n d).map (dget D)
theorem dget_sum : ∀ {D : DP} (m : List Nat), (D.map (·.1)).Nodup → dget D m = (D.map fun p => if p.1 = m then p.2 else 0).sum
  | [], m, _ => rfl
  | p :: D, m, h => by
    have h' := List.nodup_cons.mp (show (p.1 :: D.map (·.1)).Nodup from h)
    rw [dget_cons, List.map_cons, List.sum_cons]
    by_cases c : p.1 = m
    · rw [if_pos c, if_pos c]
      have : (D.map fun p => if p.1 = m then p.2 else 0) = D.map fun _ => 0 := by
        apply List.map_congr_left
        intro q hq
        rw [if_neg]
        intro e
        exact h'.1 (by rw [c]; exact List.mem_map.mpr ⟨q, hq, e⟩)
      rw [this]
      have z : ∀ l : DP, (l.map fun _ => (0 : Int)).sum = 0 := fun l => by
        induction l with
        | nil => rfl
        | cons a l ih => simp [ih]
      rw [z]
      omega
    · rw [if_neg c, if_neg c, dget_sum m h'.2]
      omega
theorem ev_coefs {n d : Nat} {D : DP} (h : Keys n d D) (x : List Rat) : ev n d (iq (coefs n d D)) x = dev D x := by
  unfold iq coefs
  rw [List.map_map, ev_map]
  have e1 : ((monos n d).map fun m => ((fun (z : Int) => (z : Rat)) ∘ dget D) m * mev m x) = (monos n d).map fun m => (D.map fun p => if p.1 = m then (p.2 : Rat) * mev m x else 0).sum := by
    apply List.map_congr_left
    intro m _
    show (dget D m : Rat) * mev m x = _
    rw [dget_sum m h.1, cast_sum, ← sum_mul_right]
    congr 1
    apply List.map_congr_left
    intro p _
    split
    · rfl
    · rw [cast_zero]; grind
  rw [e1, sum_swap]
  unfold dev
  congr 1
  apply List.map_congr_left
  intro p hp
  have := sum_pick (fun m => (p.2 : Rat) * mev m x) p.1 (monos n d) (nodup_monos n d) (h.2 p hp)
  exact this
theorem dget_le {D : DP} (m : List Nat) : (dget D m).natAbs ≤ l1 D := by
  induction D with
  | nil => simp [dget, l1]
  | cons p D ih =>
    rw [dget_cons]
    simp only [l1, List.map_cons, List.sum_cons] at ih ⊢
    split <;> omega
/-- **what a table moves a monomial to, both ways** -/
theorem coefs_moved {n d i : Nat} (hn : n = 2 ∨ n = 3) {t : List Int} (ht : t.length = n * n) (hi : i < (monos n d).length) : iq (coefs n d (mvd n t d (mk n d i))) = moved n d t (unit (monos n d).length i) := by
  have hm : mk n d i ∈ monos n d := by
    unfold mk
    rw [List.getD_eq_getElem?_getD, List.getElem?_eq_getElem hi]
    exact List.getElem_mem hi
  have hB : ∀ z ∈ t, z.natAbs ≤ (t.map Int.natAbs).sum := fun z hz => by
    clear ht
    induction t with
    | nil => simp at hz
    | cons a t ih =>
      rw [List.map_cons, List.sum_cons]
      rcases List.mem_cons.mp hz with e | e
      · rw [e]; omega
      · have := ih e; omega
  obtain ⟨k1, k2, _⟩ := mvd_facts hn ht hB d (mk n d i) hm
  refine ev_inj (by simp [iq, coefs]) (len_moved ..) fun x hx => ?_
  rw [ev_coefs k1, k2 x hx, ev_moved, ev_unit hi]
end LA
namespace LA
open Wp04 GC
def sumRow (n d : Nat) (g : List Tab) (m : List Nat) : List Int := (monos n d).map fun q => (g.map fun t => dget (mvd n t d m) q).sum
def sumRows (n d : Nat) (g : List Tab) : List (List Int) := (monos n d).map (sumRow n d g)
theorem sumRows_len {n d : Nat} {g : List Tab} : ∀ b ∈ sumRows n d g, b.length = (monos n d).length := fun b hb => by
  obtain ⟨m, _, rfl⟩ := List.mem_map.mp hb
  simp [sumRow]
theorem fi_sumRow {n d k : Nat} (g : List Tab) (m : List Nat) (hk : k < (monos n d).length) : fi (sumRow n d g m) k = (g.map fun t => fi (coefs n d (mvd n t d m)) k).sum := by
  have e : ∀ f : List Nat → Int, fi ((monos n d).map f) k = f (mk n d k) := fun f => by
    simp [fi, mk, List.getD_eq_getElem?_getD, List.getElem?_map, List.getElem?_eq_getElem hk]
  unfold sumRow coefs
  rw [e]
  congr 1
  apply List.map_congr_left
  intro t _
  rw [e]
theorem fn_sumRow {n d i k : Nat} (hn : n = 2 ∨ n = 3) {g : List Tab} (hg : ∀ t ∈ g, t.length = n * n) (g0 : (g.length : Rat) ≠ 0) (hi : i < (monos n d).length) :
    fn (iq (sumRow n d g (mk n d i))) k = (g.length : Rat) * fn (mean n d g (unit (monos n d).length i)) k := by
  rw [fn_mean]
  have e : (g.length : Rat) * (1 / (g.length : Rat) * (g.map fun t => fn (moved n d t (unit (monos n d).length i)) k).sum) = (g.map fun t => fn (moved n d t (unit (monos n d).length i)) k).sum := by grind
  rw [e, fn_iq]
  by_cases hk : k < (monos n d).length
  · rw [fi_sumRow g _ hk, cast_sum]
    congr 1
    apply List.map_congr_left
    intro t ht
    rw [← coefs_moved hn (hg t ht) hi, fn_iq]
  · rw [fi_ge (by simp [sumRow]; omega), sm_zero]
    · rfl
    · intro t _
      exact fn_ge (by rw [len_moved]; omega)
theorem mk_mem {n d i : Nat} (hi : i < (monos n d).length) : mk n d i ∈ monos n d := by
  unfold mk
  rw [List.getD_eq_getElem?_getD, List.getElem?_eq_getElem hi]
  exact List.getElem_mem hi
/-- **those that stay, by sums and elimination** -/
theorem stay_is {n d : Nat} (hn : n = 2 ∨ n = 3) {g : List Tab} (hg : ∀ t ∈ g, t.length = n * n) (g0 : (g.length : Rat) ≠ 0) : stay n d g = (elimAt (sumRows n d g) (monos n d).length).2.map nrm := by
  rw [← elim_basis sumRows_len]
  obtain ⟨gd, od, s1, s2⟩ := stay_facts n d g
  refine (basis_unique (N := (monos n d).length) (fun b hb => ?_) gd od (fun b hb => ?_) (fun b hb => ?_)).symm
  · obtain ⟨r, hr, rfl⟩ := List.mem_map.mp hb
    rw [len_iq]; exact sumRows_len r hr
  · refine Sp.trans (fun c hc => ?_) (s1 b hb)
    obtain ⟨i, hi, rfl⟩ := List.mem_map.mp hc
    have hi' : i < (monos n d).length := by simpa using hi
    have : Sp ((sumRows n d g).map iq) (fn (iq (sumRow n d g (mk n d i)))) := Sp.mem (List.mem_map.mpr ⟨_, List.mem_map.mpr ⟨_, mk_mem hi', rfl⟩, rfl⟩)
    refine (this.mul (1 / (g.length : Rat))).eq fun k => ?_
    rw [fn_sumRow hn hg g0 hi']
    grind
  · obtain ⟨r, hr, rfl⟩ := List.mem_map.mp hb
    obtain ⟨m, hm, rfl⟩ := List.mem_map.mp hr
    obtain ⟨i, hi, e⟩ := List.getElem_of_mem hm
    have em : m = mk n d i := by
      unfold mk
      rw [List.getD_eq_getElem?_getD, List.getElem?_eq_getElem hi]
      exact e.symm
    rw [em]
    have := s2 (mean n d g (unit (monos n d).length i)) (List.mem_map.mpr ⟨i, by simpa using hi, rfl⟩)
    refine (this.mul (g.length : Rat)).eq fun k => ?_
    rw [fn_sumRow hn hg g0 hi]
theorem sum_natAbs (l : List Tab) (f : Tab → Int) (B : Nat) (h : ∀ t ∈ l, (f t).natAbs ≤ B) : ((l.map f).sum).natAbs ≤ l.length * B := by
  induction l with
  | nil => simp
  | cons a l ih =>
    have h1 := h a (by simp)
    have h2 := ih fun t ht => h t (by simp [ht])
    rw [List.map_cons, List.sum_cons, List.length_cons, Nat.add_mul]
    omega
/-- no number of the sums is long -/
theorem sumRows_le {n d : Nat} (hn : n = 2 ∨ n = 3) {g : List Tab} (hg : ∀ t ∈ g, t.length = n * n) (hB : ∀ t ∈ g, ∀ z ∈ t, z.natAbs < 2 ^ 200) (h48 : g.length ≤ 48) (hd : d ≤ 8) : ∀ r ∈ sumRows n d g, ∀ j, (fi r j).natAbs ≤ 2 ^ 1700 := by
  intro r hr j
  obtain ⟨m, hm, rfl⟩ := List.mem_map.mp hr
  by_cases hj : j < (monos n d).length
  · rw [fi_sumRow g _ hj]
    refine Nat.le_trans (sum_natAbs g _ ((3 * 2 ^ 200) ^ 8) fun t ht => ?_) ?_
    · obtain ⟨_, _, k3⟩ := mvd_facts hn (hg t ht) (B := 2 ^ 200) (fun z hz => Nat.le_of_lt (hB t ht z hz)) d m hm
      have e : fi (coefs n d (mvd n t d m)) j = dget (mvd n t d m) (mk n d j) := by
        simp [fi, coefs, mk, List.getD_eq_getElem?_getD, List.getElem?_map, List.getElem?_eq_getElem hj]
      rw [e]
      exact Nat.le_trans (dget_le _) (Nat.le_trans k3 (Nat.pow_le_pow_right (by decide) hd))
    · refine Nat.le_trans (Nat.mul_le_mul_right _ h48) ?_
      decide +kernel
  · rw [fi_ge (by simp [sumRow]; omega)]
    simp
theorem monos_small {n d : Nat} (hn : n = 2 ∨ n = 3) (hd : d ≤ 8) : 1 ≤ (monos n d).length ∧ (monos n d).length ≤ 45 := by
  rcases hn with rfl | rfl
  · have : ∀ d ≤ 8, 1 ≤ (monos 2 d).length ∧ (monos 2 d).length ≤ 45 := by decide +kernel
    exact this d hd
  · have : ∀ d ≤ 8, 1 ≤ (monos 3 d).length ∧ (monos 3 d).length ≤ 45 := by decide +kernel
    exact this d hd
end LA
namespace LA
open Wp04 GC
/-- what holds of the tables told at any time -/
structure LSt (s : State) : Prop where
  gi : GC.GensIn s.n s.gens
  ok : GensOk s.n s.gens
  few : (group s.n s.gens).length ≤ 48
theorem lst_new {n : Nat} (hn : n = 2 ∨ n = 3) : LSt ⟨n, []⟩ where
  gi := ⟨hn, fun g hg => by simp at hg, fun g hg => by simp at hg⟩
  ok := ⟨hn, fun g hg => by simp at hg, fun g hg => by simp at hg⟩
  few := by rcases hn with rfl | rfl <;> decide +kernel
theorem group_nil {n : Nat} (hn : n = 2 ∨ n = 3) : group n [] = [ident n] := by rcases hn with rfl | rfl <;> decide +kernel
section
variable {n : Nat} {gens : List Tab}
theorem group_lens (h48 : (group n gens).length ≤ 48) : ∀ p ∈ group n gens, p.length = n * n := fun p hp => len_reach ((group_closed h48).2.2.1 p hp)
theorem group_one (h48 : (group n gens).length ≤ 48) : 1 ≤ (group n gens).length := List.length_pos_of_mem (group_closed h48).2.1
theorem power_mem (G : GensOk n gens) (h48 : (group n gens).length ≤ 48) {p : Tab} (hp : p ∈ group n gens) : ∀ k, powerOf n p k ∈ group n gens
  | 0 => (group_closed h48).2.1
  | k + 1 => group_mul G h48 (power_mem G h48 hp k) hp
theorem any_swap (hn : n = 2 ∨ n = 3) {g : List Tab} (hg : ∀ p ∈ g, p.length = n * n) {r : Tab} (hr : r.length = n * n) :
    (g.any fun p => decide (then_ n r p = ident n)) = g.any fun p => decide (then_ n p r = ident n) := by
  rw [Bool.eq_iff_iff, List.any_eq_true, List.any_eq_true]
  constructor
  · rintro ⟨p, hp, e⟩
    exact ⟨p, hp, decide_eq_true (undo_swap hn hr (hg p hp) (of_decide_eq_true e))⟩
  · rintro ⟨p, hp, e⟩
    exact ⟨p, hp, decide_eq_true (undo_swap hn (hg p hp) hr (of_decide_eq_true e))⟩
theorem gi_more (G : GC.GensIn n gens) {r : Tab} (hl : r.length = n * n) (h2 : ∀ z ∈ r, z.natAbs ≤ 2) : GC.GensIn n (gens ++ [r]) := by
  refine ⟨G.hn, fun g hg => ?_, fun g hg => ?_⟩
  · rcases List.mem_append.mp hg with h | h
    · exact G.len g h
    · rw [List.mem_singleton.mp h]
      exact hl
  · rcases List.mem_append.mp hg with h | h
    · exact G.two g h
    · rw [List.mem_singleton.mp h]
      exact h2
end
theorem lst_table {s : State} (L : LSt s) {r : Tab} (hl : r.length = s.n * s.n) (h2 : ∀ z ∈ r, z.natAbs ≤ 2) (h48 : (group s.n (s.gens ++ [r])).length ≤ 48)
    (hu : ((group s.n (s.gens ++ [r])).any fun t => decide (then_ s.n t r = ident s.n)) = true) : LSt { s with gens := s.gens ++ [r] } where
  gi := gi_more L.gi hl h2
  ok := by
    refine ⟨L.ok.hn, (gi_more L.gi hl h2).len, fun g hg => ?_⟩
    rcases List.mem_append.mp hg with h | h
    · exact L.ok.und g h
    · rw [List.mem_singleton.mp h]
      obtain ⟨t, ht, e⟩ := List.any_eq_true.mp hu
      exact ⟨t, group_lens h48 t ht, of_decide_eq_true e⟩
  few := h48
/-- a table that may be told -/
def tabOk (n : Nat) (r : List Int) : Bool := decide (r.length = n * n) && r.all fun z => decide (z.natAbs ≤ 2)
theorem st_table (s : State) (r : Tab) : step s (.table r) = if r.length ≠ s.n * s.n ∨ (r.all fun (z : Int) => decide (z.natAbs ≤ 2)) = false then (s, [-1]) else
    if 48 < (group s.n (s.gens ++ [r])).length then (s, [-2]) else if ((group s.n (s.gens ++ [r])).any fun (t : Tab) => decide (then_ s.n t r = ident s.n)) = false then (s, [-6]) else
      ({ s with gens := s.gens ++ [r] }, [((group s.n (s.gens ++ [r])).length : Int)]) := rfl
theorem st_begin (s : State) (n : Int) : step s (.begin_ n) = if n < 2 ∨ 3 < n then (s, [-1]) else (⟨n.toNat, []⟩, [n]) := rfl
theorem st_counts (s : State) (d : Int) : step s (.counts d) = (s, if degree s.n d = false then [-1] else (List.range (d.toNat + 1)).map fun (e : Nat) => (count s.n e (group s.n s.gens)).num) := rfl
theorem st_stay (s : State) (d : Int) : step s (.stay d) = (s, if degree s.n d = false then [-1] else ((stay s.n d.toNat (group s.n s.gens)).length : Int) :: (stay s.n d.toNat (group s.n s.gens)).flatMap fun f => f.flatMap told) := rfl
theorem step_bad {s : State} {r : Tab} (h : tabOk s.n r = false) : step s (.table r) = (s, [-1]) := by
  unfold tabOk at h
  rw [st_table]
  rw [if_pos]
  by_cases c : r.length = s.n * s.n
  · right
    rw [decide_eq_true c, Bool.true_and] at h
    exact h
  · exact .inl c
theorem tabOk_iff {n : Nat} {r : List Int} (h : tabOk n r = true) : r.length = n * n ∧ ∀ z ∈ r, z.natAbs ≤ 2 := by
  unfold tabOk at h
  rw [Bool.and_eq_true] at h
  exact ⟨of_decide_eq_true h.1, fun z hz => of_decide_eq_true (List.all_eq_true.mp h.2 z hz)⟩
theorem tabOk_not {n : Nat} {r : List Int} (h : tabOk n r = true) : ¬ (r.length ≠ n * n ∨ (r.all fun (z : Int) => decide (z.natAbs ≤ 2)) = false) := by
  unfold tabOk at h
  rw [Bool.and_eq_true] at h
  rintro (c | c)
  · exact c (of_decide_eq_true h.1)
  · rw [c] at h
    cases h.2
theorem step_many {s : State} {r : Tab} (h : tabOk s.n r = true) (g : 48 < (group s.n (s.gens ++ [r])).length) : step s (.table r) = (s, [-2]) := by
  rw [st_table]
  rw [if_neg (tabOk_not h)]
  exact if_pos g
theorem step_und {s : State} {r : Tab} (h : tabOk s.n r = true) (g : (group s.n (s.gens ++ [r])).length ≤ 48) (u : ((group s.n (s.gens ++ [r])).any fun (t : Tab) => decide (then_ s.n t r = ident s.n)) = false) :
    step s (.table r) = (s, [-6]) := by
  rw [st_table]
  rw [if_neg (tabOk_not h)]
  exact (if_neg (Nat.not_lt.mpr g)).trans (if_pos u)
theorem step_tab {s : State} {r : Tab} (h : tabOk s.n r = true) (g : (group s.n (s.gens ++ [r])).length ≤ 48) (u : ((group s.n (s.gens ++ [r])).any fun (t : Tab) => decide (then_ s.n t r = ident s.n)) = true) :
    step s (.table r) = ({ s with gens := s.gens ++ [r] }, [((group s.n (s.gens ++ [r])).length : Int)]) := by
  rw [st_table]
  rw [if_neg (tabOk_not h)]
  exact (if_neg (Nat.not_lt.mpr g)).trans (if_neg (by rw [u]; decide))
theorem step_begin {s : State} {n : Nat} (h : n = 2 ∨ n = 3) : step s (.begin_ n) = (⟨n, []⟩, [(n : Int)]) := by
  rw [st_begin]
  rw [if_neg (by omega)]
  rfl
theorem step_beginN {s : State} {n : Int} (h : ¬ (n = 2 ∨ n = 3)) : step s (.begin_ n) = (s, [-1]) := by
  rw [st_begin]
  exact if_pos (by omega)
/-- the greatest degree -/
def most (n : Nat) : Nat := if n = 2 then 8 else 5
theorem deg_iff {n : Nat} {d : Int} : degree n d = true ↔ 0 ≤ d ∧ d ≤ most n := by
  unfold degree most
  rw [Bool.and_eq_true, decide_eq_true_eq, decide_eq_true_eq]
  split <;> simp
theorem most_bnd {n d : Nat} (h : d ≤ most n) : d ≤ bnd n := by
  unfold most at h
  unfold bnd
  split at h <;> rename_i c <;> simp [c] <;> omega
theorem step_counts {s : State} (L : LSt s) {d : Nat} (hd : d ≤ most s.n) : step s (.counts d) = (s, (List.range (d + 1)).map fun e => ((stay s.n e (group s.n s.gens)).length : Int)) := by
  rw [st_counts]
  have h : degree s.n d = true := deg_iff.mpr ⟨by omega, by omega⟩
  rw [if_neg (by rw [h]; decide)]
  congr 1
  rw [Int.toNat_natCast]
  apply List.map_congr_left
  intro e he
  have := List.mem_range.mp he
  exact count_num L.ok L.few (most_bnd (by omega))
theorem step_countsN {s : State} {d : Int} (h : ¬ (0 ≤ d ∧ d ≤ most s.n)) : step s (.counts d) = (s, [-1]) := by
  rw [st_counts]
  rw [if_pos (by cases c : degree s.n d with | false => rfl | true => exact absurd (deg_iff.mp c) h)]
theorem step_stayN {s : State} {d : Int} (h : ¬ (0 ≤ d ∧ d ≤ most s.n)) : step s (.stay d) = (s, [-1]) := by
  rw [st_stay]
  rw [if_pos (by cases c : degree s.n d with | false => rfl | true => exact absurd (deg_iff.mp c) h)]
theorem step_stay {s : State} (L : LSt s) {d : Nat} (hd : d ≤ most s.n) : step s (.stay d) = (s, (((elimAt (sumRows s.n d (group s.n s.gens)) (monos s.n d).length).2.length : Nat) : Int) :: (elimAt (sumRows s.n d (group s.n s.gens)) (monos s.n d).length).2.flatMap fun r => (nrm r).flatMap told) := by
  rw [st_stay]
  have h : degree s.n d = true := deg_iff.mpr ⟨by omega, by omega⟩
  rw [if_neg (by rw [h]; decide)]
  congr 1
  rw [Int.toNat_natCast]
  have hp := group_one L.few
  rw [stay_is L.ok.hn (group_lens L.few) (by intro e; have : (group s.n s.gens).length = 0 := by exact_mod_cast e
                                             omega)]
  rw [List.length_map, List.flatMap_map]
theorem step_group {s : State} : step s .group = (s, ((group s.n s.gens).length : Int) :: (group s.n s.gens).flatMap fun t => t) := rfl
theorem elim_len {N : Nat} {rows : List Row} (h : ∀ b ∈ rows, b.length = N) : (elimAt rows N).2.length ≤ N ∧ ∀ b ∈ (elimAt rows N).2, b.length = N := by
  obtain ⟨V, S⟩ := elim_st h N (Nat.le_refl N)
  exact ⟨kept_len S, S.lenk⟩
theorem told_len (l : List Rat) : (l.flatMap told).length = 2 * l.length := by
  induction l with
  | nil => rfl
  | cons a l ih =>
    rw [List.flatMap_cons, List.length_append, ih, List.length_cons]
    show 2 + _ = _
    omega
end LA
namespace LA
open Wp04 GC
/-! what makes the same has the same basis; what lessens to 0 -/
theorem basis_same {N : Nat} {l k : List (List Rat)} (hl : ∀ b ∈ l, b.length = N) (hk : ∀ b ∈ k, b.length = N) (s1 : ∀ b ∈ l, Sp k (fn b)) (s2 : ∀ b ∈ k, Sp l (fn b)) : basis l = basis k := by
  obtain ⟨g, o, t1, t2⟩ := basis_good k hk
  exact basis_unique hl g o (fun b hb => Sp.trans s2 (t1 b hb)) fun b hb => Sp.trans t2 (s1 b hb)
theorem all_zero {x : List Rat} : (x.all fun (y : Rat) => decide (y = 0)) = true ↔ ∀ i, fn x i = 0 := by
  rw [← any_ne, List.any_eq_false, List.all_eq_true]
  constructor
  · intro h y hy
    simpa using h y hy
  · intro h y hy
    simpa using h y hy
theorem lessen_zero {N : Nat} {l : List (List Rat)} {a : List Rat} (g : Good N l) (ha : a.length = N) : (∀ i, fn (lessen l a) i = 0) ↔ Sp l (fn a) := by
  obtain ⟨v, hv, ev⟩ := lessen_span l a ha g.len
  constructor
  · intro h
    refine (hv.mul (-1)).eq fun i => ?_
    have := ev i
    rw [h i] at this
    grind
  · intro h i
    have hs : Sp l (fn (lessen l a)) := (h.add hv).eq fun i => (ev i).symm
    rw [g.red.coords hs i]
    apply sm_zero
    intro b hb
    rw [lessen_off l a g.red ha g.len b hb]
    grind
/-- **made of them**: what is left is 0 just where it is made of them -/
theorem makes_iff {N : Nat} {l : List (List Rat)} {a : List Rat} (hl : ∀ b ∈ l, b.length = N) (ha : a.length = N) : ((lessen (basis l) a).all fun (x : Rat) => decide (x = 0)) = true ↔ Sp l (fn a) := by
  obtain ⟨g, _, t1, t2⟩ := basis_good l hl
  rw [all_zero, lessen_zero g ha]
  exact ⟨fun h => Sp.trans t1 h, fun h => Sp.trans t2 h⟩
/-- how many more rows there are with one more -/
theorem taken_len {N : Nat} {l : List (List Rat)} {a : List Rat} (g : Good N l) (ha : a.length = N) : (Sp l (fn a) → (taken l a).length = l.length) ∧ (¬ Sp l (fn a) → (taken l a).length = l.length + 1) := by
  unfold taken
  have z := lessen_zero g ha
  rw [← any_ne] at z
  constructor
  · intro h
    rw [if_pos (z.mpr h)]
  · intro h
    rw [if_neg (fun e => h (z.mp e))]
    simp
theorem basis_len {N : Nat} {l : List (List Rat)} (hl : ∀ b ∈ l, b.length = N) : (basis l).length = (l.foldl taken []).length := by
  obtain ⟨g, s1, s2⟩ := fold_taken (N := N) l [] ⟨⟨by simp, by simp⟩, by simp⟩ hl
  obtain ⟨o, p⟩ := sort_fold (l.foldl taken []) [] (by simp) (by simpa using g.red.distinct)
  have p' : (basis l).Perm (l.foldl taken []) := by simpa [basis] using p
  exact p'.length_eq
/-- **made of them, by counting rows** -/
theorem makes_len {N : Nat} {l : List (List Rat)} {a : List Rat} (hl : ∀ b ∈ l, b.length = N) (ha : a.length = N) : (Sp l (fn a) → (basis (l ++ [a])).length = (basis l).length) ∧ (¬ Sp l (fn a) → (basis (l ++ [a])).length = (basis l).length + 1) := by
  have hla : ∀ b ∈ l ++ [a], b.length = N := fun b hb => by
    rcases List.mem_append.mp hb with h | h
    · exact hl b h
    · rw [List.mem_singleton.mp h]; exact ha
  obtain ⟨g, s1, s2⟩ := fold_taken (N := N) l [] ⟨⟨by simp, by simp⟩, by simp⟩ hl
  have t := taken_len g ha
  have e : Sp (l.foldl taken []) (fn a) ↔ Sp l (fn a) := ⟨fun h => Sp.trans (fun b hb => by simpa using s1 b hb) h, fun h => Sp.trans (fun b hb => s2 b (by simpa using hb)) h⟩
  rw [basis_len hla, basis_len hl, List.foldl_append, ← e]
  exact t
/-! products -/
theorem times_scale (n d e : Nat) (r s : Rat) {a b : List Rat} : times n d e (scale r a) (scale s b) = scale (r * s) (times n d e a b) := by
  refine ev_inj (len_times ..) (by rw [len_scale, len_times]) fun x _ => ?_
  rw [ev_times, ev_scale, ev_scale, ev_scale, ev_times]
  grind
/-- the products of rows that are given degree by degree -/
def prods (n : Nat) (A : Nat → List (List Rat)) (d : Nat) : List Poly := (List.range (d / 2 + 1)).flatMap fun (e : Nat) => if e = 0 then [] else (A e).flatMap fun (a : Poly) => (A (d - e)).map fun (b : Poly) => times n e (d - e) a b
theorem mem_prods {n d : Nat} {A : Nat → List (List Rat)} {p : Poly} : p ∈ prods n A d ↔ ∃ e, 1 ≤ e ∧ 2 * e ≤ d ∧ ∃ a ∈ A e, ∃ b ∈ A (d - e), p = times n e (d - e) a b := by
  unfold prods
  rw [List.mem_flatMap]
  constructor
  · rintro ⟨e, he, h⟩
    rw [List.mem_range] at he
    by_cases c : e = 0
    · rw [if_pos c] at h
      cases h
    · rw [if_neg c, List.mem_flatMap] at h
      obtain ⟨a, ha, h⟩ := h
      obtain ⟨b, hb, rfl⟩ := List.mem_map.mp h
      exact ⟨e, by omega, by omega, a, ha, b, hb, rfl⟩
  · rintro ⟨e, h1, h2, a, ha, b, hb, rfl⟩
    refine ⟨e, List.mem_range.mpr (by omega), ?_⟩
    rw [if_neg (by omega), List.mem_flatMap]
    exact ⟨a, ha, List.mem_map.mpr ⟨b, hb, rfl⟩⟩
theorem made_prods (n : Nat) (g : List Tab) (d : Nat) : made n g d = prods n (fun e => stay n e g) d := rfl
theorem len_prods {n d : Nat} {A : Nat → List (List Rat)} : ∀ p ∈ prods n A d, p.length = (monos n d).length := fun p hp => by
  obtain ⟨e, h1, h2, a, _, b, _, rfl⟩ := mem_prods.mp hp
  rw [len_times, show e + (d - e) = d by omega]
/-- rows that are the same but for a number each make the same products but for a number each -/
theorem prods_same {n d : Nat} {A B : Nat → List (List Rat)} (h : ∀ e, 1 ≤ e → e < d → ∀ a ∈ A e, ∃ b ∈ B e, ∃ r : Rat, a = scale r b) : ∀ p ∈ prods n A d, Sp (prods n B d) (fn p) := fun p hp => by
  obtain ⟨e, h1, h2, a, ha, b, hb, rfl⟩ := mem_prods.mp hp
  obtain ⟨a', ha', r, rfl⟩ := h e h1 (by omega) a ha
  obtain ⟨b', hb', s, rfl⟩ := h (d - e) (by omega) (by omega) b hb
  rw [times_scale]
  have : Sp (prods n B d) (fn (times n e (d - e) a' b')) := Sp.mem (mem_prods.mpr ⟨e, h1, h2, a', ha', b', hb', rfl⟩)
  exact (this.mul (r * s)).eq fun i => (fn_scale ..).symm
theorem prods_basis {n d : Nat} {A B : Nat → List (List Rat)} (h1 : ∀ e, 1 ≤ e → e < d → ∀ a ∈ A e, ∃ b ∈ B e, ∃ r : Rat, a = scale r b) (h2 : ∀ e, 1 ≤ e → e < d → ∀ a ∈ B e, ∃ b ∈ A e, ∃ r : Rat, a = scale r b) : basis (prods n A d) = basis (prods n B d) :=
  basis_same len_prods len_prods (prods_same h1) (prods_same h2)
/-- whole numbers that stay, degree by degree -/
def stayZ (n : Nat) (g : List Tab) (e : Nat) : List (List Int) := (elimAt (sumRows n e g) (monos n e).length).2
theorem scale_scale (r s : Rat) (a : List Rat) : scale r (scale s a) = scale (r * s) a := by
  unfold scale
  rw [List.map_map]
  apply List.map_congr_left
  intro x _
  show r * (s * x) = _
  grind
theorem scale_one (a : List Rat) : scale 1 a = a := by
  unfold scale
  simp
theorem nrm_back {b : List Int} (h : fi b (lead b) ≠ 0) : iq b = scale (fi b (lead b) : Rat) (nrm b) := by
  have h' := cast_ne h
  unfold nrm
  rw [scale_scale, show (fi b (lead b) : Rat) * (1 / (fi b (lead b) : Rat)) = 1 by grind, scale_one]
/-- **the basis of what is made, by products of whole rows** -/
theorem made_basis {n : Nat} (hn : n = 2 ∨ n = 3) {g : List Tab} (hg : ∀ t ∈ g, t.length = n * n) (g0 : (g.length : Rat) ≠ 0) (d : Nat) : basis (made n g d) = basis (prods n (fun e => (stayZ n g e).map iq) d) := by
  rw [made_prods]
  refine prods_basis (fun e _ _ a ha => ?_) (fun e _ _ a ha => ?_)
  · rw [stay_is hn hg g0] at ha
    obtain ⟨b, hb, rfl⟩ := List.mem_map.mp ha
    exact ⟨iq b, List.mem_map_of_mem hb, _, rfl⟩
  · obtain ⟨b, hb, rfl⟩ := List.mem_map.mp ha
    refine ⟨nrm b, ?_, _, nrm_back (elim_nz sumRows_len b hb).1⟩
    rw [stay_is hn hg g0]
    exact List.mem_map_of_mem hb
/-- **new ones, by counting rows** -/
theorem fresh_is {n : Nat} (hn : n = 2 ∨ n = 3) {g : List Tab} (hg : ∀ t ∈ g, t.length = n * n) (g0 : (g.length : Rat) ≠ 0) {d : Nat} (hd : d ≠ 0) :
    fresh n g d = (stayZ n g d).length - (basis (prods n (fun e => (stayZ n g e).map iq) d)).length := by
  unfold fresh
  rw [if_neg hd, made_basis hn hg g0, stay_is hn hg g0, List.length_map]
  rfl
end LA
namespace LA
open Wp04 GC
/-- the sum over the tables of what a polynomial of whole numbers becomes -/
def comb (n d : Nat) (g : List Tab) (r : List Int) : List Int := (List.range (monos n d).length).map fun k => ((List.range (monos n d).length).map fun i => fi r i * fi (sumRow n d g (mk n d i)) k).sum
theorem castSum {α : Type} (l : List α) (f : α → Int) : (((l.map f).sum : Int) : Rat) = (l.map fun a => (f a : Rat)).sum := by
  induction l with
  | nil => rfl
  | cons a l ih =>
    rw [List.map_cons, List.map_cons, List.sum_cons, List.sum_cons, Rat.intCast_add, ih]
theorem mean_is {n d : Nat} (hn : n = 2 ∨ n = 3) {g : List Tab} (hg : ∀ t ∈ g, t.length = n * n) (g0 : (g.length : Rat) ≠ 0) {r : List Int} (hr : r.length = (monos n d).length) : mean n d g (iq r) = scale (1 / (g.length : Rat)) (iq (comb n d g r)) := by
  refine fn_ext (by rw [len_mean, len_scale, len_iq]; simp [comb]) fun k => ?_
  rw [fn_scale, mean_lin n d g (by rw [len_iq]; exact hr), fn_iq]
  by_cases hk : k < (monos n d).length
  · have e : fi (comb n d g r) k = ((List.range (monos n d).length).map fun i => fi r i * fi (sumRow n d g (mk n d i)) k).sum := by
      unfold comb fi
      rw [List.getD_eq_getElem?_getD, List.getElem?_map, List.getElem?_range hk]
      rfl
    rw [e, castSum, ← sm_mul]
    congr 1
    apply List.map_congr_left
    intro i hi
    have hi' : i < (monos n d).length := by simpa using hi
    have := fn_sumRow (k := k) hn hg g0 hi'
    rw [fn_iq] at this ⊢
    rw [Rat.intCast_mul, this]
    grind
  · have e : fi (comb n d g r) k = 0 := fi_ge (by simp [comb]; omega)
    rw [e]
    have z : ∀ i ∈ List.range (monos n d).length, fn (iq r) i * fn (mean n d g (unit (monos n d).length i)) k = 0 := fun i _ => by
      rw [fn_ge (a := mean n d g _) (by rw [len_mean]; omega)]
      grind
    rw [sm_zero _ _ z]
    grind
/-- **it stays** just where the sum is so often itself -/
theorem stays_comb {n d : Nat} (hn : n = 2 ∨ n = 3) {g : List Tab} (hg : ∀ t ∈ g, t.length = n * n) (g0 : (g.length : Rat) ≠ 0) {r : List Int} (hr : r.length = (monos n d).length) : mean n d g (iq r) = iq r ↔ comb n d g r = r.map fun z => (g.length : Int) * z := by
  rw [mean_is hn hg g0 hr]
  have lc : (comb n d g r).length = r.length := by rw [hr]; simp [comb]
  constructor
  · intro h
    apply List.ext_getElem?
    intro k
    have q := congrArg (fun x => fn x k) h
    simp only [fn_scale, fn_iq] at q
    by_cases hk : k < r.length
    · rw [List.getElem?_map, List.getElem?_eq_getElem hk, List.getElem?_eq_getElem (by omega : k < (comb n d g r).length)]
      have e1 : fi (comb n d g r) k = (comb n d g r)[k]'(by omega) := by unfold fi; rw [List.getD_eq_getElem?_getD, List.getElem?_eq_getElem (by omega)]; rfl
      have e2 : fi r k = r[k] := by unfold fi; rw [List.getD_eq_getElem?_getD, List.getElem?_eq_getElem hk]; rfl
      rw [e1, e2] at q
      have q2 : (((comb n d g r)[k]'(by omega) : Int) : Rat) = (((g.length : Int) * r[k] : Int) : Rat) := by
        rw [Rat.intCast_mul]
        have : (((g.length : Nat) : Int) : Rat) = (g.length : Rat) := rfl
        rw [this]
        grind
      have q3 := Rat.intCast_inj.mp q2
      simp [q3]
    · rw [List.getElem?_eq_none (by omega), List.getElem?_eq_none (by rw [List.length_map]; omega)]
  · intro h
    rw [h]
    refine fn_ext (by simp [scale, iq]) fun k => ?_
    rw [fn_scale, fn_iq, fn_iq]
    have : fi (r.map fun z => (g.length : Int) * z) k = (g.length : Int) * fi r k := by
      unfold fi
      rw [List.getD_eq_getElem?_getD, List.getD_eq_getElem?_getD, List.getElem?_map]
      cases r[k]? <;> simp
    rw [this, Rat.intCast_mul]
    have : (((g.length : Nat) : Int) : Rat) = (g.length : Rat) := rfl
    rw [this]
    grind
end LA
namespace LA
open Wp04 GC
/-! a row as a dict, products of two -/
/-- the first k numbers of a row as a polynomial, without those that are 0 -/
def polyK (order : List (List Nat)) (row : List Int) (k : Nat) : DP := ((List.range k).filter fun j => decide (fi row j ≠ 0)).map fun j => (order.getD j [], fi row j)
def polyD (n d : Nat) (row : List Int) : DP := polyK (monos n d) row (monos n d).length
theorem polyK_succ (order : List (List Nat)) (row : List Int) (k : Nat) : polyK order row (k + 1) = if fi row k = 0 then polyK order row k else polyK order row k ++ [(order.getD k [], fi row k)] := by
  unfold polyK
  rw [List.range_succ, List.filter_append, List.map_append]
  by_cases c : fi row k = 0
  · rw [if_pos c]
    simp [List.filter_cons, c]
  · rw [if_neg c]
    simp [List.filter_cons, c]
theorem polyK_keys {order : List (List Nat)} {row : List Int} (h : order.Nodup) : ∀ k, k ≤ order.length → ((polyK order row k).map (·.1)).Nodup ∧ ∀ m ∈ (polyK order row k).map (·.1), ∃ j < k, order[j]? = some m
  | 0, _ => by simp [polyK]
  | k + 1, hk => by
    obtain ⟨h1, h2⟩ := polyK_keys (row := row) h k (by omega)
    rw [polyK_succ]
    have e : order[k]? = some (order.getD k []) := by rw [List.getD_eq_getElem?_getD, List.getElem?_eq_getElem (by omega)]; rfl
    by_cases c : fi row k = 0
    · rw [if_pos c]
      exact ⟨h1, fun m hm => by obtain ⟨j, hj, ej⟩ := h2 m hm; exact ⟨j, by omega, ej⟩⟩
    · rw [if_neg c, List.map_append]
      refine ⟨?_, fun m hm => ?_⟩
      · rw [List.nodup_append]
        refine ⟨h1, by simp, fun a ha b hb => ?_⟩
        simp only [List.map_cons, List.map_nil, List.mem_singleton] at hb
        subst hb
        obtain ⟨j, hj, ej⟩ := h2 a ha
        intro z
        rw [z, ← e] at ej
        have := (List.getElem?_inj (by omega : j < order.length) h).mp ej
        omega
      · rcases List.mem_append.mp hm with hm | hm
        · obtain ⟨j, hj, ej⟩ := h2 m hm
          exact ⟨j, by omega, ej⟩
        · simp only [List.map_cons, List.map_nil, List.mem_singleton] at hm
          rw [hm]
          exact ⟨k, by omega, e⟩
theorem polyK_new {order : List (List Nat)} {row : List Int} (h : order.Nodup) {k : Nat} (hk : k < order.length) : order.getD k [] ∉ (polyK order row k).map (·.1) := fun hm => by
  obtain ⟨j, hj, ej⟩ := (polyK_keys (row := row) h k (by omega)).2 _ hm
  have e : order[k]? = some (order.getD k []) := by rw [List.getD_eq_getElem?_getD, List.getElem?_eq_getElem (by omega)]; rfl
  rw [← e] at ej
  have := (List.getElem?_inj (by omega : j < order.length) h).mp ej
  omega
theorem polyK_len (order : List (List Nat)) (row : List Int) (k : Nat) : (polyK order row k).length ≤ k := by
  unfold polyK
  rw [List.length_map]
  have := List.length_filter_le (fun j => decide (fi row j ≠ 0)) (List.range k)
  rw [List.length_range] at this
  exact this
theorem polyD_keys {n d : Nat} {row : List Int} : Keys n d (polyD n d row) := by
  obtain ⟨h1, h2⟩ := polyK_keys (row := row) (nodup_monos n d) (monos n d).length (Nat.le_refl _)
  refine ⟨h1, fun p hp => ?_⟩
  obtain ⟨j, _, ej⟩ := h2 p.1 (List.mem_map_of_mem hp)
  exact List.mem_of_getElem? ej
theorem polyK_dev (n d : Nat) (row : List Int) (x : List Rat) : ∀ k, dev (polyK (monos n d) row k) x = ((List.range k).map fun j => fn (iq row) j * mev (mk n d j) x).sum
  | 0 => rfl
  | k + 1 => by
    have ih := polyK_dev n d row x k
    rw [polyK_succ, List.range_succ, List.map_append, List.sum_append, ← ih]
    simp only [List.map_cons, List.map_nil, List.sum_cons, List.sum_nil]
    by_cases c : fi row k = 0
    · rw [if_pos c, fn_iq, c, cast_zero]
      grind
    · rw [if_neg c, fn_iq]
      simp only [dev, List.map_append, List.sum_append, List.map_cons, List.map_nil, List.sum_cons, List.sum_nil]
      rfl
theorem polyD_dev (n d : Nat) (row : List Int) (x : List Rat) : dev (polyD n d row) x = ev n d (iq row) x := by
  unfold polyD
  rw [polyK_dev, ev_ix]
theorem polyK_l1 (order : List (List Nat)) (row : List Int) {M : Nat} (h : ∀ j, (fi row j).natAbs ≤ M) : ∀ k, l1 (polyK order row k) ≤ k * M
  | 0 => by simp [polyK, l1]
  | k + 1 => by
    have ih := polyK_l1 order row h k
    rw [polyK_succ, Nat.add_mul]
    by_cases c : fi row k = 0
    · rw [if_pos c]
      omega
    · rw [if_neg c]
      have := h k
      simp only [l1, List.map_append, List.sum_append, List.map_cons, List.map_nil, List.sum_cons, List.sum_nil] at ih ⊢
      omega
theorem polyK_le (order : List (List Nat)) (row : List Int) {M : Nat} (h : ∀ j, (fi row j).natAbs ≤ M) (k : Nat) : ∀ p ∈ polyK order row k, p.2.natAbs ≤ M := fun p hp => by
  unfold polyK at hp
  obtain ⟨j, _, rfl⟩ := List.mem_map.mp hp
  exact h j
/-- one monomial times a polynomial, added -/
def prod1 (p : List Nat × Int) (P B : DP) : DP := B.foldl (fun P q => dadd P (addM p.1 q.1) (p.2 * q.2)) P
def prodD (A B : DP) : DP := A.foldl (fun P p => prod1 p P B) []
theorem prod1_facts {n d e : Nat} {p : List Nat × Int} (hp : p.1 ∈ monos n d) : ∀ (B P : DP), (∀ q ∈ B, q.1 ∈ monos n e) → Keys n (d + e) P →
    Keys n (d + e) (prod1 p P B) ∧ (∀ x, dev (prod1 p P B) x = dev P x + ((p.2 : Rat) * mev p.1 x) * dev B x) ∧ l1 (prod1 p P B) ≤ l1 P + p.2.natAbs * l1 B
  | [], P, _, hP => ⟨hP, fun x => by simp [prod1, dev]; grind, by simp [prod1, l1]⟩
  | q :: B, P, hB, hP => by
    obtain ⟨c1, c2, c3, c4⟩ := dadd_cases P (addM p.1 q.1) (p.2 * q.2) hP.1
    have hq := hB q (by simp)
    obtain ⟨t1, t2, t3⟩ := prod1_facts hp B (dadd P (addM p.1 q.1) (p.2 * q.2)) (fun q' hq' => hB q' (by simp [hq'])) ⟨c1, fun r hr => by
      rcases c2 r hr with e | e
      · rw [e]
        exact addM_mem hp hq
      · obtain ⟨r', hr', e'⟩ := List.mem_map.mp e
        rw [← e']
        exact hP.2 r' hr'⟩
    have ef : prod1 p P (q :: B) = prod1 p (dadd P (addM p.1 q.1) (p.2 * q.2)) B := rfl
    rw [ef]
    refine ⟨t1, fun x => ?_, ?_⟩
    · rw [t2 x, c3, mev_add _ _ _ (by rw [(mem_monos.mp hp).1, (mem_monos.mp hq).1]), Rat.intCast_mul]
      simp only [dev, List.map_cons, List.sum_cons]
      grind
    · rw [Int.natAbs_mul] at c4
      simp only [l1, List.map_cons, List.sum_cons] at t3 c4 ⊢
      rw [Nat.mul_add]
      omega
theorem prodF_facts {n d e : Nat} {B : DP} (hB : ∀ q ∈ B, q.1 ∈ monos n e) : ∀ (A P : DP), (∀ p ∈ A, p.1 ∈ monos n d) → Keys n (d + e) P →
    Keys n (d + e) (A.foldl (fun P p => prod1 p P B) P) ∧ (∀ x, dev (A.foldl (fun P p => prod1 p P B) P) x = dev P x + dev A x * dev B x) ∧ l1 (A.foldl (fun P p => prod1 p P B) P) ≤ l1 P + l1 A * l1 B
  | [], P, _, hP => ⟨hP, fun x => by simp [dev]; grind, by simp [l1]⟩
  | p :: A, P, hA, hP => by
    obtain ⟨a1, a2, a3⟩ := prod1_facts (hA p (by simp)) B P hB hP
    obtain ⟨b1, b2, b3⟩ := prodF_facts hB A (prod1 p P B) (fun q hq => hA q (by simp [hq])) a1
    rw [List.foldl_cons]
    refine ⟨b1, fun x => ?_, ?_⟩
    · rw [b2 x, a2 x]
      simp only [dev, List.map_cons, List.sum_cons]
      grind
    · simp only [l1, List.map_cons, List.sum_cons] at b3 a3 ⊢
      rw [Nat.add_mul]
      omega
theorem prodD_facts {n d e : Nat} {A B : DP} (hA : Keys n d A) (hB : Keys n e B) : Keys n (d + e) (prodD A B) ∧ (∀ x, dev (prodD A B) x = dev A x * dev B x) ∧ l1 (prodD A B) ≤ l1 A * l1 B := by
  obtain ⟨h1, h2, h3⟩ := prodF_facts hB.2 A [] hA.2 ⟨by simp, by simp⟩
  refine ⟨h1, fun x => ?_, ?_⟩
  · have := h2 x
    have z : dev [] x = 0 := rfl
    rw [z] at this
    unfold prodD
    rw [this]
    grind
  · have z : l1 [] = 0 := rfl
    rw [z] at h3
    unfold prodD
    omega
/-- the row of two rows' product -/
def prodZ (n e d : Nat) (a b : List Int) : List Int := coefs n d (prodD (polyD n e a) (polyD n (d - e) b))
theorem prodZ_len (n e d : Nat) (a b : List Int) : (prodZ n e d a b).length = (monos n d).length := by simp [prodZ, coefs]
theorem prodZ_is {n e d : Nat} (h : e ≤ d) (a b : List Int) : iq (prodZ n e d a b) = times n e (d - e) (iq a) (iq b) := by
  obtain ⟨k1, k2, _⟩ := prodD_facts (polyD_keys (n := n) (d := e) (row := a)) (polyD_keys (n := n) (d := d - e) (row := b))
  rw [show e + (d - e) = d by omega] at k1
  have lt := len_times n e (d - e) (iq a) (iq b)
  have evt := fun x => ev_times n e (d - e) (iq a) (iq b) x
  rw [show e + (d - e) = d by omega] at lt
  refine ev_inj (n := n) (d := d) (by simp [prodZ, iq, coefs]) lt fun x _ => ?_
  unfold prodZ
  have h3 := evt x
  rw [show e + (d - e) = d by omega] at h3
  rw [ev_coefs k1, k2, polyD_dev, polyD_dev, h3]
theorem prodZ_le {n e d : Nat} {a b : List Int} {M N : Nat} (ha : ∀ j, (fi a j).natAbs ≤ M) (hb : ∀ j, (fi b j).natAbs ≤ M) (h1 : (monos n e).length ≤ N) (h2 : (monos n (d - e)).length ≤ N) (j : Nat) : (fi (prodZ n e d a b) j).natAbs ≤ (N * M) * (N * M) := by
  by_cases hj : j < (monos n d).length
  · have e1 : fi (prodZ n e d a b) j = dget (prodD (polyD n e a) (polyD n (d - e) b)) ((monos n d)[j]) := by
      simp [fi, prodZ, coefs, List.getD_eq_getElem?_getD, List.getElem?_eq_getElem hj]
    rw [e1]
    refine Nat.le_trans (dget_le _) ?_
    obtain ⟨_, _, k3⟩ := prodD_facts (polyD_keys (n := n) (d := e) (row := a)) (polyD_keys (n := n) (d := d - e) (row := b))
    refine Nat.le_trans k3 (Nat.mul_le_mul ?_ ?_)
    · exact Nat.le_trans (polyK_l1 _ _ ha _) (Nat.mul_le_mul_right _ h1)
    · exact Nat.le_trans (polyK_l1 _ _ hb _) (Nat.mul_le_mul_right _ h2)
  · rw [fi_ge (by rw [prodZ_len]; omega)]
    exact Nat.zero_le _
/-- products of whole rows, in order -/
def prodsZ (n : Nat) (S : Nat → List (List Int)) (d : Nat) : List (List Int) := (List.range (d / 2)).flatMap fun i => (S (i + 1)).flatMap fun a => (S (d - (i + 1))).map fun b => prodZ n (i + 1) d a b
theorem prodsZ_iq (n : Nat) (S : Nat → List (List Int)) (d : Nat) : (prodsZ n S d).map iq = prods n (fun e => (S e).map iq) d := by
  unfold prods prodsZ
  rw [List.range_succ_eq_map, List.flatMap_cons, if_pos rfl, List.nil_append, List.flatMap_map, List.map_flatMap]
  rw [List.flatMap, List.flatMap]
  congr 1
  apply List.map_congr_left
  intro i hi
  have hi' := List.mem_range.mp hi
  rw [if_neg (by omega), List.map_flatMap, List.flatMap_map]
  rw [List.flatMap, List.flatMap]
  congr 1
  apply List.map_congr_left
  intro a _
  rw [List.map_map, List.map_map]
  apply List.map_congr_left
  intro b _
  exact prodZ_is (by omega) a b
theorem prodsZ_len {n : Nat} {S : Nat → List (List Int)} {d : Nat} : ∀ r ∈ prodsZ n S d, r.length = (monos n d).length := fun r hr => by
  unfold prodsZ at hr
  obtain ⟨i, _, hr⟩ := List.mem_flatMap.mp hr
  obtain ⟨a, _, hr⟩ := List.mem_flatMap.mp hr
  obtain ⟨b, _, rfl⟩ := List.mem_map.mp hr
  exact prodZ_len ..
/-- the rows kept of what is made of lower ones -/
def madeZ (n : Nat) (g : List Tab) (d : Nat) : List (List Int) := (elimAt (prodsZ n (stayZ n g) d) (monos n d).length).2
theorem made_nrm {n : Nat} (hn : n = 2 ∨ n = 3) {g : List Tab} (hg : ∀ t ∈ g, t.length = n * n) (g0 : (g.length : Rat) ≠ 0) (d : Nat) : basis (made n g d) = (madeZ n g d).map nrm := by
  rw [made_basis hn hg g0, ← prodsZ_iq, elim_basis prodsZ_len]
  rfl
/-! what is made of lower ones stays -/
theorem basis_le {N : Nat} {l k : List (List Rat)} (hl : ∀ b ∈ l, b.length = N) (g : Good N k) (s : ∀ b ∈ l, Sp k (fn b)) : (basis l).length ≤ k.length := by
  obtain ⟨gb, ob, t1, _⟩ := basis_good l hl
  have hn : ((basis l).map first).Nodup := by
    rw [List.Nodup, List.pairwise_map]
    exact ob.imp fun h => by omega
  have := GC.nodup_sub (l := (basis l).map first) (k := k.map first) hn fun x hx => by
    obtain ⟨b, hb, rfl⟩ := List.mem_map.mp hx
    obtain ⟨c, hc, e⟩ := g.red.lead (Sp.trans s (t1 b hb)) (k := first b) (by rw [gb.red.one b hb]; decide) (fun i hi => fn_first_lt hi)
    exact List.mem_map.mpr ⟨c, hc, e⟩
  simpa using this
section
variable {n : Nat} {gens : List Tab}
theorem stay_fixed (G : GensOk n gens) (h48 : (group n gens).length ≤ 48) {d : Nat} {a : List Rat} (ha : a ∈ stay n d (group n gens)) : mean n d (group n gens) a = a := by
  obtain ⟨g, _, s, _⟩ := stay_facts n d (group n gens)
  refine fn_ext (by rw [len_mean, g.len a ha]) fun k => ?_
  rw [span_fixed G h48 (s a ha) k, mean_lin n d _ (g.len a ha) k]
theorem fixed_stay (G : GensOk n gens) (h48 : (group n gens).length ≤ 48) {d : Nat} {f : List Rat} (hf : f.length = (monos n d).length) (h : mean n d (group n gens) f = f) : Sp (stay n d (group n gens)) (fn f) := by
  obtain ⟨_, _, _, s⟩ := stay_facts n d (group n gens)
  have key : ∀ l : List Nat, (∀ i ∈ l, i < (monos n d).length) → Sp (stay n d (group n gens)) (fun k => (l.map fun i => fn f i * fn (mean n d (group n gens) (unit (monos n d).length i)) k).sum) := by
    intro l
    induction l with
    | nil => intro _; exact Sp.zero.eq fun i => rfl
    | cons i l ih =>
      intro hl
      have h1 := s _ (List.mem_map.mpr ⟨i, List.mem_range.mpr (hl i (by simp)), rfl⟩)
      refine ((h1.mul (fn f i)).add (ih fun j hj => hl j (by simp [hj]))).eq fun k => ?_
      simp
  refine (key (List.range (monos n d).length) (by simp)).eq fun k => ?_
  rw [← mean_lin n d (group n gens) hf k, h]
theorem times_fixed (G : GensOk n gens) (h48 : (group n gens).length ≤ 48) {d e : Nat} {a b : List Rat} (la : a.length = (monos n d).length) (lb : b.length = (monos n e).length) (ha : mean n d (group n gens) a = a) (hb : mean n e (group n gens) b = b) :
    mean n (d + e) (group n gens) (times n d e a b) = times n d e a b := by
  rw [stays_iff G h48 la] at ha
  rw [stays_iff G h48 lb] at hb
  rw [stays_iff G h48 (len_times ..)]
  intro t ht
  refine ev_inj (len_moved ..) (len_times ..) fun x _ => ?_
  have h1 := congrArg (fun p => ev n d p x) (ha t ht)
  have h2 := congrArg (fun p => ev n e p x) (hb t ht)
  simp only [ev_moved] at h1 h2
  rw [ev_moved, ev_times, ev_times, h1, h2]
theorem made_le (G : GensOk n gens) (h48 : (group n gens).length ≤ 48) (d : Nat) : (basis (made n (group n gens) d)).length ≤ (stay n d (group n gens)).length := by
  refine basis_le (N := (monos n d).length) (fun b hb => len_prods b (by rw [← made_prods]; exact hb)) (stay_facts n d (group n gens)).1 fun b hb => ?_
  rw [made_prods] at hb
  obtain ⟨e, h1, h2, a, ha, c, hc, rfl⟩ := mem_prods.mp hb
  have f1 := times_fixed G h48 ((stay_facts n e _).1.len a ha) ((stay_facts n (d - e) _).1.len c hc) (stay_fixed G h48 ha) (stay_fixed G h48 hc)
  rw [show e + (d - e) = d by omega] at f1
  have lt := len_times n e (d - e) a c
  rw [show e + (d - e) = d by omega] at lt
  exact fixed_stay G h48 lt f1
/-- **new ones** -/
theorem fresh_int (G : GensOk n gens) (h48 : (group n gens).length ≤ 48) {d : Nat} (hd : d ≠ 0) : ((fresh n (group n gens) d : Nat) : Int) = ((stay n d (group n gens)).length : Int) - ((madeZ n (group n gens) d).length : Int) := by
  have h := made_le G h48 d
  have e : (basis (made n (group n gens) d)).length = (madeZ n (group n gens) d).length := by
    rw [made_nrm G.hn (fun t ht => len_reach ((group_closed h48).2.2.1 t ht)) (group_pos h48), List.length_map]
  unfold fresh
  rw [if_neg hd]
  rw [e] at h ⊢
  omega
end
/-! cleared by all -/
def clearAll (rows : List Row) (row : Row) : Row := rows.foldl (fun r b => clear r b (lead b)) row
theorem clearAll_is {N : Nat} : ∀ (rows : List Row) (row : Row) (x : List Rat) (s : Rat), (∀ b ∈ rows, b.length = N ∧ fi b (lead b) ≠ 0) → row.length = N → x.length = N → s ≠ 0 → (∀ j, (fi row j : Rat) = s * fn x j) →
    (clearAll rows row).length = N ∧ ∃ t : Rat, t ≠ 0 ∧ ∀ j, (fi (clearAll rows row) j : Rat) = t * fn (lessen (rows.map nrm) x) j
  | [], row, x, s, _, hr, _, hs, h => ⟨hr, s, hs, h⟩
  | b :: rows, row, x, s, hb, hr, hx, hs, h => by
    obtain ⟨lb, nb⟩ := hb b (by simp)
    obtain ⟨c1, _, _, c, hc, ce⟩ := clear_ok (orig := [row]) hr lb nb (Or.inl (by simp))
    have ef : clearAll (b :: rows) row = clearAll rows (clear row b (lead b)) := rfl
    rw [ef, List.map_cons, lessen_cons]
    refine clearAll_is rows (clear row b (lead b)) _ (s / c) (fun b' h' => hb b' (by simp [h'])) c1 (by rw [len_plus _ _ (by rw [len_scale, len_nrm, hx, lb])]; exact hx) (by grind) fun j => ?_
    rw [fn_take1 hx (by rw [len_nrm]; exact lb), first_nrm nb, fn_nrm]
    have e1 := ce j
    have e2 := h j
    have e3 := h (lead b)
    have h0 := cast_ne nb
    rw [e2, e3] at e1
    have : (fi (clear row b (lead b)) j : Rat) = (s * fn x j + -(s * fn x (lead b) / (fi b (lead b) : Rat)) * (fi b j : Rat)) / c := by grind
    rw [this]
    grind
/-- **made of lower ones**, cleared by all -/
theorem makes_clear {N : Nat} {rows : List Row} {row : Row} (hb : ∀ b ∈ rows, b.length = N ∧ fi b (lead b) ≠ 0) (hr : row.length = N) : ((lessen (rows.map nrm) (iq row)).all fun (x : Rat) => decide (x = 0)) = true ↔ ∀ z ∈ clearAll rows row, z = 0 := by
  obtain ⟨l, t, ht, e⟩ := clearAll_is rows row (iq row) 1 hb hr (by rw [len_iq]; exact hr) (by decide) fun j => by rw [fn_iq]; grind
  rw [all_zero]
  constructor
  · intro h z hz
    obtain ⟨j, hj, ej⟩ := List.getElem_of_mem hz
    have := e j
    rw [h j, show fi (clearAll rows row) j = z by simp [fi, List.getD_eq_getElem?_getD, List.getElem?_eq_getElem hj, ej]] at this
    have q : (z : Rat) = 0 := by grind
    exact_mod_cast q
  · intro h i
    have := e i
    rw [fi_zero h i, cast_zero] at this
    grind
theorem shorten_le (row : Row) (j : Nat) : (fi (shorten row) j).natAbs ≤ (fi row j).natAbs := by
  by_cases h : gcdl row = 0
  · unfold shorten
    rw [if_pos h]
    exact Nat.le_refl _
  · rw [fi_shorten h j, Int.natAbs_mul, Int.natAbs_natCast]
    exact Nat.le_mul_of_pos_left _ (by omega)
theorem clear_lt {N : Nat} {row b : Row} {p k m : Nat} (h1 : row.length = N) (h2 : b.length = N) (hr : ∀ j, (fi row j).natAbs < 2 ^ k) (hb : ∀ j, (fi b j).natAbs < 2 ^ m) (j : Nat) : (fi (clear row b p) j).natAbs < 2 ^ (k + m + 1) := by
  unfold clear
  split
  · exact Nat.lt_of_lt_of_le (hr j) (Nat.pow_le_pow_right (by decide) (by omega))
  · refine Nat.lt_of_le_of_lt (shorten_le _ j) ?_
    rw [fi_mixed p j h1 h2]
    have e1 : (fi b p * fi row j).natAbs < 2 ^ (k + m) := by
      rw [Int.natAbs_mul, Nat.pow_add, Nat.mul_comm (2 ^ k)]
      exact Nat.mul_lt_mul'' (hb p) (hr j)
    have e2 : (fi row p * fi b j).natAbs < 2 ^ (k + m) := by
      rw [Int.natAbs_mul, Nat.pow_add]
      exact Nat.mul_lt_mul'' (hr p) (hb j)
    rw [Nat.pow_succ]
    omega
theorem clearAll_lt {N : Nat} {m : Nat} : ∀ (rows : List Row) (row : Row) (k : Nat), (∀ b ∈ rows, b.length = N ∧ fi b (lead b) ≠ 0 ∧ ∀ j, (fi b j).natAbs < 2 ^ m) → row.length = N → (∀ j, (fi row j).natAbs < 2 ^ k) →
    (clearAll rows row).length = N ∧ ∀ j, (fi (clearAll rows row) j).natAbs < 2 ^ (k + rows.length * (m + 1))
  | [], row, k, _, hr, h => ⟨hr, fun j => by simpa [clearAll] using h j⟩
  | b :: rows, row, k, hb, hr, h => by
    obtain ⟨lb, nb, bb⟩ := hb b (by simp)
    obtain ⟨c1, _⟩ := clear_ok (orig := [row]) hr lb nb (Or.inl (by simp))
    have := clearAll_lt rows (clear row b (lead b)) (k + m + 1) (fun b' h' => hb b' (by simp [h'])) c1 (fun j => clear_lt hr lb h bb j)
    have ef : clearAll (b :: rows) row = clearAll rows (clear row b (lead b)) := rfl
    rw [ef]
    refine ⟨this.1, fun j => ?_⟩
    have h2 := this.2 j
    rw [List.length_cons, Nat.add_mul, Nat.one_mul, show k + (rows.length * (m + 1) + (m + 1)) = k + m + 1 + rows.length * (m + 1) by omega]
    exact h2
end LA
namespace LA
open Wp04 GC
/-! the specification's steps 5 to 8 in the program's words -/
theorem st_mean (s : State) (d : Int) (r : List Int) : step s (.mean d r) = (s, match polyOf s.n d r with
    | none => [-1]
    | some f => (mean s.n d.toNat (group s.n s.gens) f).flatMap told) := rfl
theorem st_stays (s : State) (d : Int) (r : List Int) : step s (.stays d r) = (s, match polyOf s.n d r with
    | none => [-1]
    | some f => [if mean s.n d.toNat (group s.n s.gens) f = f then 1 else 0]) := rfl
theorem st_fresh (s : State) (d : Int) : step s (.fresh d) = (s, if degree s.n d = false then [-1] else (List.range (d.toNat + 1)).map fun (e : Nat) => ((fresh s.n (group s.n s.gens) e : Nat) : Int)) := rfl
theorem st_makes (s : State) (d : Int) (r : List Int) : step s (.makes d r) = (s, match polyOf s.n d r with
    | none => [-1]
    | some f => if mean s.n d.toNat (group s.n s.gens) f ≠ f then [-4] else [if (lessen (basis (made s.n (group s.n s.gens) d.toNat)) f).all (fun (x : Rat) => decide (x = 0)) = true then 1 else 0]) := rfl
/-- the numbers of a polynomial that may be asked about -/
def polyOk (n d : Nat) (r : List Int) : Bool := decide (r.length = (monos n d).length) && r.all fun z => decide (z.natAbs ≤ 1000)
theorem polyOk_iff {n d : Nat} {r : List Int} (h : polyOk n d r = true) : r.length = (monos n d).length ∧ ∀ z ∈ r, z.natAbs ≤ 1000 := by
  unfold polyOk at h
  rw [Bool.and_eq_true] at h
  exact ⟨of_decide_eq_true h.1, fun z hz => of_decide_eq_true (List.all_eq_true.mp h.2 z hz)⟩
theorem polyOf_yes {n d : Nat} {r : List Int} (hd : d ≤ most n) (h : polyOk n d r = true) : polyOf n d r = some (iq r) := by
  unfold polyOk at h
  rw [Bool.and_eq_true] at h
  have h1 : degree n d = true := deg_iff.mpr ⟨by omega, by omega⟩
  unfold polyOf
  rw [if_pos ⟨h1, by rw [Int.toNat_natCast]; exact of_decide_eq_true h.1, h.2⟩]
  rfl
theorem polyOf_deg {n : Nat} {d : Int} {r : List Int} (h : ¬ (0 ≤ d ∧ d ≤ most n)) : polyOf n d r = none := by
  unfold polyOf
  exact if_neg fun c => h (deg_iff.mp c.1)
theorem polyOf_no {n d : Nat} {r : List Int} (h : polyOk n d r = false) : polyOf n d r = none := by
  unfold polyOf
  rw [if_neg]
  rintro ⟨_, h2, h3⟩
  rw [Int.toNat_natCast] at h2
  unfold polyOk at h
  rw [decide_eq_true h2, Bool.true_and] at h
  rw [h3] at h
  cases h
/-- whether a polynomial may be asked about -/
def allows (n : Nat) (d : Int) (r : List Int) : Bool := decide (0 ≤ d ∧ d ≤ most n) && polyOk n d.toNat r
theorem polyOf_none {n : Nat} {d : Int} {r : List Int} (h : allows n d r = false) : polyOf n d r = none := by
  unfold allows at h
  by_cases c : 0 ≤ d ∧ d ≤ most n
  · rw [decide_eq_true c, Bool.true_and] at h
    obtain ⟨e, rfl⟩ : ∃ e : Nat, d = (e : Int) := ⟨d.toNat, by omega⟩
    rw [Int.toNat_natCast] at h
    exact polyOf_no h
  · exact polyOf_deg c
theorem allows_iff {n : Nat} {d : Int} {r : List Int} (h : allows n d r = true) : ∃ e : Nat, d = (e : Int) ∧ e ≤ most n ∧ polyOk n e r = true := by
  unfold allows at h
  rw [Bool.and_eq_true] at h
  have c := of_decide_eq_true h.1
  exact ⟨d.toNat, by omega, by omega, h.2⟩
theorem step_meanN {s : State} {d : Int} {r : List Int} (h : allows s.n d r = false) : step s (.mean d r) = (s, [-1]) := by rw [st_mean, polyOf_none h]
theorem step_staysN {s : State} {d : Int} {r : List Int} (h : allows s.n d r = false) : step s (.stays d r) = (s, [-1]) := by rw [st_stays, polyOf_none h]
theorem step_makesN {s : State} {d : Int} {r : List Int} (h : allows s.n d r = false) : step s (.makes d r) = (s, [-1]) := by rw [st_makes, polyOf_none h]
theorem step_freshN {s : State} {d : Int} (h : ¬ (0 ≤ d ∧ d ≤ most s.n)) : step s (.fresh d) = (s, [-1]) := by
  rw [st_fresh]
  rw [if_pos (by cases c : degree s.n d with | false => rfl | true => exact absurd (deg_iff.mp c) h)]
/-- a row told by a number -/
def toldBy (row : List Int) (b : Int) : List Int := row.flatMap fun (z : Int) => told ((z : Rat) / (b : Rat))
theorem toldBy_len (row : List Int) (b : Int) : (toldBy row b).length = 2 * row.length := by
  unfold toldBy
  induction row with
  | nil => rfl
  | cons a l ih =>
    rw [List.flatMap_cons, List.length_append, ih, List.length_cons]
    show 2 + _ = _
    omega
theorem g_ne {s : State} (L : LSt s) : ((group s.n s.gens).length : Rat) ≠ 0 := group_pos L.few
theorem step_mean {s : State} (L : LSt s) {d : Nat} {r : List Int} (hd : d ≤ most s.n) (h : polyOk s.n d r = true) : step s (.mean d r) = (s, toldBy (comb s.n d (group s.n s.gens) r) (group s.n s.gens).length) := by
  rw [st_mean, polyOf_yes hd h]
  simp only
  rw [Int.toNat_natCast, mean_is L.ok.hn (group_lens L.few) (g_ne L) (polyOk_iff h).1]
  congr 1
  unfold toldBy scale iq
  rw [List.map_map, List.flatMap_map]
  rw [List.flatMap, List.flatMap]
  congr 1
  apply List.map_congr_left
  intro z _
  show told (1 / ((group s.n s.gens).length : Rat) * (z : Rat)) = told ((z : Rat) / (((group s.n s.gens).length : Int) : Rat))
  have : ((((group s.n s.gens).length : Nat) : Int) : Rat) = ((group s.n s.gens).length : Rat) := rfl
  rw [this]
  congr 1
  grind
/-- whether it stays, by the sum -/
def leftB (n d : Nat) (g : List Tab) (r : List Int) : Bool := decide (comb n d g r = r.map fun z => z * (g.length : Int))
theorem left_iff {s : State} (L : LSt s) {d : Nat} {r : List Int} (h : polyOk s.n d r = true) : (mean s.n d (group s.n s.gens) (iq r) = iq r) ↔ leftB s.n d (group s.n s.gens) r = true := by
  rw [stays_comb L.ok.hn (group_lens L.few) (g_ne L) (polyOk_iff h).1]
  unfold leftB
  rw [decide_eq_true_eq]
  have e : (r.map fun z => ((group s.n s.gens).length : Int) * z) = r.map fun z => z * ((group s.n s.gens).length : Int) := List.map_congr_left fun z _ => Int.mul_comm ..
  rw [e]
def b01 (b : Bool) : Int := if b = true then 1 else 0
theorem step_stays {s : State} (L : LSt s) {d : Nat} {r : List Int} (hd : d ≤ most s.n) (h : polyOk s.n d r = true) : step s (.stays d r) = (s, [b01 (leftB s.n d (group s.n s.gens) r)]) := by
  rw [st_stays, polyOf_yes hd h]
  simp only
  rw [Int.toNat_natCast]
  congr 2
  unfold b01
  by_cases c : leftB s.n d (group s.n s.gens) r = true
  · rw [if_pos c, if_pos ((left_iff L h).mpr c)]
  · rw [if_neg c, if_neg fun z => c ((left_iff L h).mp z)]
theorem step_fresh {s : State} (L : LSt s) {d : Nat} (hd : d ≤ most s.n) : step s (.fresh d) = (s, 0 :: (List.range d).map fun i => ((stay s.n (i + 1) (group s.n s.gens)).length : Int) - ((madeZ s.n (group s.n s.gens) (i + 1)).length : Int)) := by
  rw [st_fresh]
  have h : degree s.n d = true := deg_iff.mpr ⟨by omega, by omega⟩
  rw [if_neg (by rw [h]; decide), Int.toNat_natCast, List.range_succ_eq_map, List.map_cons, List.map_map]
  congr 2
  apply List.map_congr_left
  intro i _
  exact fresh_int L.ok L.few (by omega)
theorem madeZ_ok {s : State} (L : LSt s) {d : Nat} : ∀ b ∈ madeZ s.n (group s.n s.gens) d, b.length = (monos s.n d).length ∧ fi b (lead b) ≠ 0 := fun b hb => ⟨(elim_len prodsZ_len).2 b hb, (elim_nz prodsZ_len b hb).1⟩
theorem step_makes4 {s : State} (L : LSt s) {d : Nat} {r : List Int} (hd : d ≤ most s.n) (h : polyOk s.n d r = true) (hl : leftB s.n d (group s.n s.gens) r = false) : step s (.makes d r) = (s, [-4]) := by
  rw [st_makes, polyOf_yes hd h]
  simp only
  rw [Int.toNat_natCast, if_pos fun z => by rw [(left_iff L h).mp z] at hl; cases hl]
theorem step_makes {s : State} (L : LSt s) {d : Nat} {r : List Int} (hd : d ≤ most s.n) (h : polyOk s.n d r = true) (hl : leftB s.n d (group s.n s.gens) r = true) :
    step s (.makes d r) = (s, [b01 (!((clearAll (madeZ s.n (group s.n s.gens) d) r).any fun z => decide (z ≠ 0)))]) := by
  rw [st_makes, polyOf_yes hd h]
  simp only
  rw [Int.toNat_natCast, if_neg (fun z => z ((left_iff L h).mpr hl)), made_nrm L.ok.hn (group_lens L.few) (g_ne L)]
  have q := makes_clear (madeZ_ok L (d := d)) (polyOk_iff h).1
  congr 2
  unfold b01
  by_cases c : ∀ z ∈ clearAll (madeZ s.n (group s.n s.gens) d) r, z = 0
  · rw [if_pos (q.mpr c), if_pos]
    rw [Bool.not_eq_true', List.any_eq_false]
    intro z hz
    simpa using c z hz
  · rw [if_neg (fun z => c (q.mp z)), if_neg]
    rw [Bool.not_eq_true', List.any_eq_false]
    intro z
    exact c fun y hy => by simpa using z y hy
/-! sizes -/
theorem monos_21 {n d : Nat} (hn : n = 2 ∨ n = 3) (hd : d ≤ most n) : 1 ≤ (monos n d).length ∧ (monos n d).length ≤ 21 := by
  unfold most at hd
  rcases hn with rfl | rfl
  · have : ∀ d < 9, 1 ≤ (monos 2 d).length ∧ (monos 2 d).length ≤ 21 := by decide
    exact this d (by simpa [Nat.lt_succ_iff] using hd)
  · have : ∀ d < 6, 1 ≤ (monos 3 d).length ∧ (monos 3 d).length ≤ 21 := by decide
    exact this d (by simpa [Nat.lt_succ_iff] using hd)
theorem pow40 {N : Nat} (h : N ≤ 21) : ((N + 1) * 2 ^ 1700) ^ (N + 1) < 2 ^ 40000 := by
  have h1 : (N + 1) * 2 ^ 1700 ≤ 2 ^ 1706 := by
    rw [show 1706 = 6 + 1700 from rfl, Nat.pow_add]
    exact Nat.mul_le_mul (by omega) (Nat.le_refl _)
  calc ((N + 1) * 2 ^ 1700) ^ (N + 1) ≤ (2 ^ 1706) ^ (N + 1) := Nat.pow_le_pow_left h1 _
    _ = 2 ^ (1706 * (N + 1)) := (Nat.pow_mul ..).symm
    _ < 2 ^ 40000 := Nat.pow_lt_pow_right (by decide) (by omega)
theorem pow18 {N : Nat} (h : N ≤ 21) : ((N + 1) * 2 ^ 80010) ^ (N + 1) < 2 ^ 1800000 := by
  have h1 : (N + 1) * 2 ^ 80010 ≤ 2 ^ 80016 := by
    rw [show 80016 = 6 + 80010 from rfl, Nat.pow_add]
    exact Nat.mul_le_mul (by omega) (Nat.le_refl _)
  calc ((N + 1) * 2 ^ 80010) ^ (N + 1) ≤ (2 ^ 80016) ^ (N + 1) := Nat.pow_le_pow_left h1 _
    _ = 2 ^ (80016 * (N + 1)) := (Nat.pow_mul ..).symm
    _ < 2 ^ 1800000 := Nat.pow_lt_pow_right (by decide) (by omega)
theorem prod80 {n e d : Nat} {a b : List Int} (ha : ∀ j, (fi a j).natAbs ≤ 2 ^ 40000) (hb : ∀ j, (fi b j).natAbs ≤ 2 ^ 40000) (h1 : (monos n e).length ≤ 21) (h2 : (monos n (d - e)).length ≤ 21) (j : Nat) : (fi (prodZ n e d a b) j).natAbs ≤ 2 ^ 80010 := by
  refine Nat.le_trans (prodZ_le ha hb h1 h2 j) ?_
  have h3 : 21 * 2 ^ 40000 ≤ 2 ^ 40005 := by
    rw [show 40005 = 5 + 40000 from rfl, Nat.pow_add]
    exact Nat.mul_le_mul (by decide) (Nat.le_refl _)
  rw [show 80010 = 40005 + 40005 from rfl, Nat.pow_add]
  exact Nat.mul_le_mul h3 h3
theorem stayZ_le {s : State} (L : LSt s) {d : Nat} (hd : d ≤ most s.n) : ∀ r ∈ stayZ s.n (group s.n s.gens) d, r.length = (monos s.n d).length ∧ (∀ j, (fi r j).natAbs ≤ 2 ^ 40000) := fun r hr => by
  have hn := L.ok.hn
  have d8 : d ≤ 8 := Nat.le_trans (most_bnd hd) bnd8
  have := elim_bound (M := 2 ^ 1700) (sumRows_len (n := s.n) (d := d) (g := group s.n s.gens)) Nat.one_le_two_pow (sumRows_le hn (group_lens L.few) (fun t ht => GC.group_short L.gi L.few ht) L.few d8) (Nat.le_refl _) r (List.mem_append_right _ hr)
  exact ⟨this.1, fun j => Nat.le_of_lt (Nat.lt_of_le_of_lt (this.2 j) (pow40 (monos_21 hn hd).2))⟩
theorem stayZ_len {n : Nat} {g : List Tab} {d : Nat} : (stayZ n g d).length ≤ (monos n d).length := (elim_len sumRows_len).1
end LA
namespace LA
open Wp04
/-- a call and the numbers that it is spelled by -/
inductive Raw : List (List Int) → List Int → Prop
  | one (p x : Int) (h : p = 0 ∨ p = 3 ∨ p = 4 ∨ p = 7) : Raw [[p, x]] [p, x]
  | non : Raw [[2]] [2]
  | row (r : List Int) : Raw [[1], r] (1 :: (r.length : Int) :: r)
  | oneRow (p x : Int) (r : List Int) (h : p = 5 ∨ p = 6 ∨ p = 8) : Raw [[p, x], r] (p :: x :: (r.length : Int) :: r)
theorem row_is {l r t : List Int} (h : PyFlat.row l = some (r, t)) : l = (r.length : Int) :: (r ++ t) := by
  unfold PyFlat.row at h
  split at h
  · cases h
  · rename_i n m
    split at h
    · rename_i c
      simp only [Option.some.injEq, Prod.mk.injEq] at h
      obtain ⟨rfl, rfl⟩ := h
      have : (m.take n.toNat).length = n.toNat := by
        rw [List.length_take]
        omega
      rw [this, List.take_append_drop, Int.toNat_of_nonneg c.1]
    · cases h
theorem rows_one {l t : List Int} {xs : List (List Int)} (h : PyFlat.rows 1 l = some (xs, t)) : ∃ r, xs = [r] ∧ l = (r.length : Int) :: (r ++ t) := by
  unfold PyFlat.rows at h
  split at h
  · cases h
  · rename_i x s e
    have h' : (match PyFlat.rows 0 s with
      | none => none
      | some (xs, t) => some (x :: xs, t)) = some (xs, t) := h
    simp only [PyFlat.rows, Option.some.injEq, Prod.mk.injEq] at h'
    obtain ⟨rfl, rfl⟩ := h'
    exact ⟨x, rfl, row_is e⟩
theorem shape_is {p : Int} {n k : Nat} (h : PyWp04.shape p = some (n, k)) : ((p = 0 ∨ p = 3 ∨ p = 4 ∨ p = 7) ∧ n = 1 ∧ k = 0) ∨ (p = 2 ∧ n = 0 ∧ k = 0) ∨ (p = 1 ∧ n = 0 ∧ k = 1) ∨ ((p = 5 ∨ p = 6 ∨ p = 8) ∧ n = 1 ∧ k = 1) := by
  unfold PyWp04.shape at h
  repeat' split at h
  all_goals first
    | (simp only [Option.some.injEq, Prod.mk.injEq] at h; obtain ⟨rfl, rfl⟩ := h; simp_all)
    | cases h
theorem call_raw {l t : List Int} {c : List (List Int)} (h : PyFlat.call PyWp04.shape l = some (c, t)) : ∃ u, l = u ++ t ∧ Raw c u := by
  unfold PyFlat.call at h
  split at h
  · cases h
  · rename_i p r
    split at h
    · cases h
    · rename_i n k e
      split at h
      · cases h
      · rename_i hl
        split at h
        · cases h
        · rename_i xs t' e2
          simp only [Option.some.injEq, Prod.mk.injEq] at h
          obtain ⟨rfl, rfl⟩ := h
          rcases shape_is e with ⟨hp, rfl, rfl⟩ | ⟨rfl, rfl, rfl⟩ | ⟨rfl, rfl, rfl⟩ | ⟨hp, rfl, rfl⟩
          · simp only [PyFlat.rows, Option.some.injEq, Prod.mk.injEq] at e2
            obtain ⟨rfl, rfl⟩ := e2
            cases r with
            | nil => simp at hl
            | cons x r => exact ⟨[p, x], rfl, .one p x hp⟩
          · simp only [PyFlat.rows, Option.some.injEq, Prod.mk.injEq] at e2
            obtain ⟨rfl, rfl⟩ := e2
            exact ⟨[2], rfl, .non⟩
          · obtain ⟨q, rfl, e3⟩ := rows_one e2
            refine ⟨1 :: (q.length : Int) :: q, ?_, .row q⟩
            have e4 : r = (q.length : Int) :: (q ++ t') := e3
            rw [e4]
            rfl
          · obtain ⟨q, rfl, e3⟩ := rows_one e2
            cases r with
            | nil => simp at hl
            | cons x r =>
              have e4 : r = (q.length : Int) :: (q ++ t') := e3
              refine ⟨p :: x :: (q.length : Int) :: q, ?_, .oneRow p x q hp⟩
              rw [e4]
              rfl
theorem calls_cons {f : Nat} {l : List Int} {cs : List (List (List Int))} (h : PyFlat.calls PyWp04.shape f l = some cs) (hl : l ≠ []) : ∃ f' c cs' u t, cs = c :: cs' ∧ l = u ++ t ∧ Raw c u ∧ PyFlat.calls PyWp04.shape f' t = some cs' := by
  unfold PyFlat.calls at h
  split at h
  · exact absurd rfl hl
  · cases h
  · rename_i f p r
    split at h
    · cases h
    · rename_i c t e
      split at h
      · cases h
      · rename_i cs' e2
        simp only [Option.some.injEq] at h
        obtain ⟨u, e3, R⟩ := call_raw e
        exact ⟨f, c, cs', u, t, h.symm, e3, R, e2⟩
/-- the document's call of a spelled one -/
def docCall (u : List Int) : Option Call := match u with
  | [0, x] => some (.begin_ x)
  | 1 :: _ :: r => some (.table r)
  | [2] => some .group
  | [3, x] => some (.counts x)
  | [4, x] => some (.stay x)
  | 5 :: x :: _ :: r => some (.mean x r)
  | 6 :: x :: _ :: r => some (.stays x r)
  | [7, x] => some (.fresh x)
  | 8 :: x :: _ :: r => some (.makes x r)
  | _ => none
theorem raw_step {c : List (List Int)} {u : List Int} (R : Raw c u) : ∃ x, docCall u = some x ∧ ∀ s, Wp04Neutral.step s (PyWp04.whole c) = step s x := by
  cases R with
  | one p x h => rcases h with rfl | rfl | rfl | rfl <;> exact ⟨_, rfl, fun _ => rfl⟩
  | non => exact ⟨_, rfl, fun _ => rfl⟩
  | row r => exact ⟨.table r, rfl, fun _ => rfl⟩
  | oneRow p x r h => rcases h with rfl | rfl | rfl <;> exact ⟨_, rfl, fun _ => rfl⟩
theorem step_gens (s : State) (x : Call) : (step s x).1.gens.length ≤ s.gens.length + 1 := by
  cases x with
  | begin_ n =>
    rw [st_begin]
    split <;> simp
  | table r =>
    rw [st_table]
    split
    · simp
    · split
      · simp
      · split <;> simp
  | _ => exact Nat.le_succ _
end LA
section
set_option maxRecDepth 100000
set_option maxHeartbeats 4000000
namespace LF
open PySem PySem.Spec PyProof.Rows L2
/-- the i-th statement of the program -/
def top (i : Nat) : Stmt := PySem.Challenge.pw_leftalone_s01_answers.main.body.getD i (.Pass ⟨0, 0, 0, 0⟩)
/-- the built-ins are as they are -/
structure Bi (mg : Str → Option Value) : Prop where
  tuple : mg "tuple" = none
  range : mg "range" = none
  sum : mg "sum" = none
  len : mg "len" = none
  sorted : mg "sorted" = none
  any : mg "any" = none
  all : mg "all" = none
  abs : mg "abs" = none
  list : mg "list" = none
  int : mg "int" = none
theorem ifT {c : Bool} {A B : Prop} (hc : c = true) (h : A) : if c = true then A else B := by
  rw [if_pos hc]
  exact h
theorem ifF {c : Bool} {A B : Prop} (hc : c = false) (h : B) : if c = true then A else B := by
  rw [hc, if_neg Bool.false_ne_true]
  exact h
/-- a new object leaves all that was tracked as it was -/
theorem same_upd {H : Hp} {p : Addr} {o : HO} (h : H p = none) : Same H (upd H p o) := fun b o' e => by
  rw [upd_ne (ne_of_none e h)]
  exact e
theorem free_ne {H H' : Hp} (s : Same H H') {p : Addr} (h : H' p = none) : H p = none := s.free h
end LF
end
section
set_option maxRecDepth 100000
set_option maxHeartbeats 4000000
namespace LF
open PySem PySem.Spec PyProof.Rows L2
variable {P : Program} {w : World} {K : PySem.W.Frag} {mg : Str → Option Value} {base : Heap}
abbrev sNd : Stmt := top 2
def NNd : List Str := ["n", "place"]
theorem scNd : FnScope NNd ["n"] (defScope sNd) := ⟨rfl, rfl, rfl, by decide +kernel, rfl, by decide +kernel, by decide +kernel⟩
theorem id_at {n i : Nat} (hn : n = 2 ∨ n = 3) (hi : i < n * n) : (Wp04.ident n).take (i + 1) = (Wp04.ident n).take i ++ [if (i : Int).fdiv n = (i : Int).fmod n then 1 else 0] := by
  rcases hn with rfl | rfl
  · have : ∀ i < 2 * 2, (Wp04.ident 2).take (i + 1) = (Wp04.ident 2).take i ++ [if (i : Int).fdiv (2 : Nat) = (i : Int).fmod (2 : Nat) then 1 else 0] := by decide
    exact this i hi
  · have : ∀ i < 3 * 3, (Wp04.ident 3).take (i + 1) = (Wp04.ident 3).take i ++ [if (i : Int).fdiv (3 : Nat) = (i : Int).fmod (3 : Nat) then 1 else 0] := by decide
    exact this i hi
/-- nothing_done -/
def spNd : Sp := fun vs H Q _ => ∃ n : Nat, vs = [.int n] ∧ (n = 2 ∨ n = 3) ∧ ∀ (H' : Hp) (p : Addr), Same H H' → H p = none → H' p = some (.tup ((Wp04.ident n).map V.int)) → Q (.ref p) H'
theorem ok_nd {f : Addr} {fd : FuncData} (F : Fun K "nothing_done" "nothing_done" sNd f fd) (B : Bi mg) : FnOk P w K mg base CX0 1 f fd ["n"] spNd := by
  refine F.ok scNd (fun vs H Q E h => ?_) (fun cdv A outer s H vs Q E hr h => ?_)
  · obtain ⟨n, rfl, _⟩ := h
    rfl
  · have nd : NNd.Nodup := scNd.nd
    refine ⟨_, pss_one (ps_ret (pe_callTy call_tuple_of (by rfl) B.tuple (by decide +kernel) (pa_cons
      (pe_lc (own := [("place", 1)]) (g := gName 1) (tt := tYes) rfl nd (pi_range1 (by rfl) B.range (pa_cons (pe_op op_mul (pv 0) (pv 0)) pa_nil))
        (blkOk_by (N := NNd) (sc := defScope sNd) (by decide +kernel)) (fun _ _ _ _ _ => pg_name (i := 1) nd rfl (Or.inl rfl)) (fun _ _ _ _ _ => pts_nil)
        (fun _ _ _ _ _ => pe_ifExp (pt_cmpR op_eq (pe_op op_fdivN (pv 1) (pv 0)) (pe_op op_modN (pv 1) (pv 0)) (nomark _)) pe_int pe_int)) pa_nil))), ?_⟩
    obtain ⟨n, rfl, hn, k⟩ := h
    have hn4 : 0 ≤ (n : Int) * n ∧ (n : Int) * n ≤ 9 ∧ ((n : Int) * n).toNat = n * n ∧ n * n ≤ 9 := by rcases hn with rfl | rfl <;> decide
    have hn0 : (n : Int) ≠ 0 ∧ (n : Int).natAbs < 1073741824 := by omega
    refine ⟨_, rfl, _, rfl, _, _, rfl, rfl, .inl ⟨by omega, by omega⟩, _, rfl, by omega, by omega, fun D hD => ?_⟩
    refine lc_range (lo := 0) (fun i H' => Same H H' ∧ H' D = some (.lst (((Wp04.ident n).take i).map V.int))) ⟨same_upd hD, upd_same⟩ ?_ ?_
    · rintro i H' hi ⟨s1, hd⟩
      rw [hn4.2.2.1] at hi
      refine ⟨rfl, ?_⟩
      refine ⟨_, rfl, _, rfl, _, _, rfl, rfl, hn0, _, rfl, _, rfl, _, _, rfl, rfl, hn0.1, rfl, _, rfl, ?_⟩
      have e := id_at hn hi
      have fin : ∀ z : Int, (Wp04.ident n).take (i + 1) = (Wp04.ident n).take i ++ [z] → ∃ acc, H' D = some (.lst acc) ∧ acc.length < sizeLine ∧ (Same H (upd H' D (.lst (acc ++ [.int z]))) ∧ (upd H' D (.lst (acc ++ [.int z]))) D = some (.lst (((Wp04.ident n).take (i + 1)).map V.int))) := fun z ez => by
        refine ⟨_, hd, small1000 (by simp; omega), fun b o hb => ?_, ?_⟩
        · rw [upd_ne (ne_of_none hb hD)]
          exact s1 b o hb
        · rw [upd_same, ez, List.map_append]
          rfl
      by_cases c : (i : Int).fdiv n = (i : Int).fmod n
      · refine ifT (decide_eq_true (by simpa using c)) (fin 1 ?_)
        rw [e, if_pos c]
      · refine ifF (decide_eq_false (by simpa using c)) (fin 0 ?_)
        rw [e, if_neg c]
    · rintro H' ⟨s1, hd⟩
      rw [hn4.2.2.1, List.take_of_length_le (by rw [GC.len_ident]; exact Nat.le_refl _)] at hd
      refine ⟨D, _, rfl, .inl ⟨SqL.of hd, fun l hl => ?_⟩⟩
      refine k _ l (fun b o hb => ?_) (s1.free hl) upd_same
      rw [upd_ne (ne_of_none (s1 b o hb) hl)]
      exact s1 b o hb
end LF
end
section
set_option maxRecDepth 100000
set_option maxHeartbeats 4000000
namespace LF
open PySem PySem.Spec PyProof.Rows L2
variable {P : Program} {w : World} {K : PySem.W.Frag} {mg : Str → Option Value} {base : Heap}
/-- all numbers of a row are short -/
def Bd (k : Nat) (t : List Int) : Prop := ∀ z ∈ t, z.natAbs < 2 ^ k
/-- one number of what two tables make -/
def cellN (n : Nat) (t u : List Int) (i j : Nat) : Int := ((List.range n).map fun k => u.getD (i * n + k) 0 * t.getD (k * n + j) 0).sum
theorem then_at {n i j : Nat} (hn : n = 2 ∨ n = 3) (hi : i < n) (hj : j < n) {t u : List Int} (ht : t.length = n * n) (hu : u.length = n * n) :
    (Wp04.then_ n t u).take (i * n + (j + 1)) = (Wp04.then_ n t u).take (i * n + j) ++ [cellN n t u i j] := by
  rcases hn with rfl | rfl
  · obtain ⟨a, b, c, d, rfl⟩ := LA.four ht
    obtain ⟨a', b', c', d', rfl⟩ := LA.four hu
    rw [LA.then2]
    match i, hi, j, hj with
    | 0, _, 0, _ => simp [cellN, List.range_succ]
    | 0, _, 1, _ => simp [cellN, List.range_succ]
    | 1, _, 0, _ => simp [cellN, List.range_succ]
    | 1, _, 1, _ => simp [cellN, List.range_succ]
  · obtain ⟨a, b, c, d, e, f, g, h, i', rfl⟩ := LA.nine ht
    obtain ⟨a', b', c', d', e', f', g', h', i'', rfl⟩ := LA.nine hu
    rw [LA.then3]
    match i, hi, j, hj with
    | 0, _, 0, _ => simp [cellN, List.range_succ]; grind
    | 0, _, 1, _ => simp [cellN, List.range_succ]; grind
    | 0, _, 2, _ => simp [cellN, List.range_succ]; grind
    | 1, _, 0, _ => simp [cellN, List.range_succ]; grind
    | 1, _, 1, _ => simp [cellN, List.range_succ]; grind
    | 1, _, 2, _ => simp [cellN, List.range_succ]; grind
    | 2, _, 0, _ => simp [cellN, List.range_succ]; grind
    | 2, _, 1, _ => simp [cellN, List.range_succ]; grind
    | 2, _, 2, _ => simp [cellN, List.range_succ]; grind
theorem getD_map {t : List Int} {i : Nat} (h : i < t.length) : (t.map V.int)[i]? = some (.int (t.getD i 0)) := by
  rw [List.getElem?_map, List.getElem?_eq_getElem h, List.getD_eq_getElem?_getD, List.getElem?_eq_getElem h]
  rfl
theorem Bd.at {k : Nat} {t : List Int} (h : Bd k t) (hk : 0 < k) (i : Nat) : (t.getD i 0).natAbs < 2 ^ k := by
  rw [List.getD_eq_getElem?_getD]
  cases e : t[i]? with
  | none => exact Nat.pow_pos (by decide)
  | some z => exact h z (List.mem_of_getElem? e)
abbrev sMd : Stmt := top 3
def NMd : List Str := ["n", "a", "b", "numbers", "i", "j", "k"]
theorem scMd : FnScope NMd ["n", "a", "b"] (defScope sMd) := ⟨rfl, rfl, rfl, by decide +kernel, rfl, by decide +kernel, by decide +kernel⟩
/-- made -/
def spMd : Sp := fun vs H Q _ => ∃ (n : Nat) (a b : Addr) (t u : List Int), vs = [.int n, .ref a, .ref b] ∧ (n = 2 ∨ n = 3) ∧ H a = some (.tup (t.map V.int)) ∧ H b = some (.tup (u.map V.int)) ∧
  t.length = n * n ∧ u.length = n * n ∧ Bd 1000 t ∧ Bd 1000 u ∧ ∀ (H' : Hp) (p : Addr), Same H H' → H p = none → H' p = some (.tup ((Wp04.then_ n t u).map V.int)) → Q (.ref p) H'
theorem ok_md {f : Addr} {fd : FuncData} (F : Fun K "made" "made" sMd f fd) (B : Bi mg) : FnOk P w K mg base CX0 1 f fd ["n", "a", "b"] spMd := by
  refine F.ok scMd (fun vs H Q E h => ?_) (fun cdv A outer s H vs Q E hr h => ?_)
  · obtain ⟨n, a, b, t, u, rfl, _⟩ := h
    rfl
  · have nd : NMd.Nodup := scMd.nd
    refine ⟨_, pss_cons (ps_set (i := 3) nd rfl (Or.inl rfl) (pe_lst pa_nil))
      (pss_cons (ps_for PassesOwn.never rfl (pi_range1 (by rfl) B.range (pa_cons (pv 0) pa_nil)) (pg_name (i := 4) nd rfl (Or.inr rfl))
        (pss_one (ps_for PassesOwn.never rfl (pi_range1 (by rfl) B.range (pa_cons (pv 0) pa_nil)) (pg_name (i := 5) nd rfl (Or.inr rfl))
          (pss_one (ps_expr (pe_bm PySem.F.plainAttrs_list PySem.F.slot_list_append PySem.F.type_list_append mt_append (pv 3)
            (pa_cons (pe_callB (cr_sum rfl) (by rfl) B.sum (by decide +kernel) (pa_cons
              (pe_lc (own := [("k", 6)]) (g := gName 6) (tt := tYes) rfl nd (pi_range1 (by rfl) B.range (pa_cons (pv 0) pa_nil))
                (blkOk_by (N := NMd) (sc := defScope sMd) (by decide +kernel)) (fun _ _ _ _ _ => pg_name (i := 6) nd rfl (Or.inl rfl)) (fun _ _ _ _ _ => pts_nil)
                (fun _ _ _ _ _ => pe_op op_mulW (pe_ix (r := rIxT K) ix_tup (pv 2) (pe_op op_add (pe_op op_mul (pv 4) (pv 0)) (pv 6)) (fun _ _ => rfl))
                  (pe_ix (r := rIxT K) ix_tup (pv 1) (pe_op op_add (pe_op op_mul (pv 6) (pv 0)) (pv 5)) (fun _ _ => rfl)))) pa_nil)) pa_nil)))))))
      (pss_one (ps_ret (pe_callTy call_tuple_of (by rfl) B.tuple (by decide +kernel) (pa_cons (pv 3) pa_nil))))), ?_⟩
    obtain ⟨n, a, b, t, u, rfl, hn, ha, hb, ht, hu, bt, bu, k⟩ := h
    have hn3 : n ≤ 3 := by omega
    refine ⟨by decide, fun l hl => ?_⟩
    refine ⟨_, rfl, (n : Int), rfl, by omega, by omega, ?_⟩
    rw [Int.toNat_natCast]
    refine for_range (lo := 0) (n := n) (fun i σ H' => ∃ vi vj, σ = [some (.int n), some (.ref a), some (.ref b), some (.ref l), vi, vj, none] ∧ Same H H' ∧ H' l = some (.lst (((Wp04.then_ n t u).take (i * n)).map V.int)))
      ⟨none, none, rfl, same_upd hl, by rw [upd_same]; simp⟩ ?_ ?_
    · rintro i σ H' hi ⟨vi, vj, rfl, s1, h1⟩
      refine ⟨_, rfl, (n : Int), rfl, by omega, by omega, ?_⟩
      rw [Int.toNat_natCast]
      refine for_range (lo := 0) (n := n) (fun j σ H' => ∃ vj, σ = [some (.int n), some (.ref a), some (.ref b), some (.ref l), some (.int (0 + i)), vj, none] ∧ Same H H' ∧ H' l = some (.lst (((Wp04.then_ n t u).take (i * n + j)).map V.int)))
        ⟨vj, rfl, s1, h1⟩ ?_ ?_
      · rintro j σ H2 hj ⟨vj, rfl, s2, h2⟩
        refine ⟨_, rfl, .inl ⟨rfl, _, SqL.of h2⟩, _, rfl, (n : Int), rfl, by omega, by omega, ?_⟩
        rw [Int.toNat_natCast]
        intro D hD
        refine lc_range (lo := 0) (fun m H3 => Same H2 H3 ∧ H3 D = some (.lst (((List.range m).map fun k => u.getD (i * n + k) 0 * t.getD (k * n + j) 0).map V.int))) ⟨same_upd hD, by rw [upd_same]; rfl⟩ ?_ ?_
        · rintro m H3 hm ⟨s3, h3⟩
          have hix : i * n + m < u.length ∧ m * n + j < t.length := by
            rw [ht, hu]
            rcases hn with rfl | rfl <;> omega
          refine ⟨rfl, ?_⟩
          refine ⟨_, rfl, _, rfl, _, rfl, _, _, rfl, rfl, .inl ⟨by omega, by omega⟩, _, rfl, _, _, rfl, rfl, b, _, _, _, rfl, rfl, SqT.of (s3 _ _ (s2 _ _ hb)), at_of (j := i * n + m) (by simp [Int.zero_add]) (getD_map hix.1), ?_⟩
          refine ⟨_, rfl, _, rfl, _, rfl, _, _, rfl, rfl, .inl ⟨by omega, by omega⟩, _, rfl, _, _, rfl, rfl, a, _, _, _, rfl, rfl, SqT.of (s3 _ _ (s2 _ _ ha)), at_of (j := m * n + j) (by simp [Int.zero_add]) (getD_map hix.2), ?_⟩
          refine ⟨_, _, rfl, rfl, wide_mul (bu.at (by decide) _) (bt.at (by decide) _) (by decide) (by decide) (by decide), ?_⟩
          refine ⟨_, h3, small1000 (by simp; omega), fun b' o hb' => ?_, ?_⟩
          · rw [upd_ne (ne_of_none hb' hD)]
            exact s3 b' o hb'
          · rw [upd_same, List.range_succ, List.map_append, List.map_append]
            rfl
        · rintro H3 ⟨s3, h3⟩
          refine ⟨D, _, rfl, SqL.of h3, ?_⟩
          refine ⟨l, _, _, rfl, rfl, s3 _ _ h2, small1000 (by
            have := List.length_take_le (i * n + j) (Wp04.then_ n t u)
            have : i * n + j ≤ 9 := by rcases hn with rfl | rfl <;> omega
            simp; omega), ?_⟩
          have s4 : Same H H3 := s2.trans s3
          refine ⟨some (.int (0 + j)), rfl, fun b' o hb' => ?_, ?_⟩
          · rw [upd_ne (ne_of_none hb' hl)]
            exact s4 b' o hb'
          · rw [upd_same, then_at hn hi hj ht hu, List.map_append]
            rfl
      · rintro σ H2 ⟨vj, rfl, s2, h2⟩
        refine ⟨some (.int (0 + i)), vj, rfl, s2, ?_⟩
        rw [Nat.add_mul, Nat.one_mul]
        exact h2
    · rintro σ H' ⟨vi, vj, rfl, s1, h1⟩
      rw [List.take_of_length_le (by rw [GC.len_then]; exact Nat.le_refl _)] at h1
      refine ⟨_, rfl, l, _, rfl, .inl ⟨SqL.of h1, fun q hq => ?_⟩⟩
      refine k _ q (fun b' o hb' => ?_) (s1.free hq) upd_same
      rw [upd_ne (ne_of_none (s1 b' o hb') hq)]
      exact s1 b' o hb'
end LF
end
section
set_option maxRecDepth 100000
set_option maxHeartbeats 4000000
/-! sorted of a list of tuples of ints, of whatever sign and size, all of one length -/
namespace LFS
open PySem PyProof.Rows
section
variable {prog : Program} {w : World} {A : Around} {E : Value → Shared → Prop} {s : Shared} {Q : Bool → Shared → Prop}
theorem walk_lex {b : Bool} : ∀ {xs ys : List Value} {ns ms : List Int} (j : Nat), IntsAre xs ns → IntsAre ys ms → ns.length = ms.length → Q (HT.lexLt ns ms) s → PySem.W.KatLex prog w A b false Q (xs.zip ys) j s
  | _, _, _, _, j, .nil, .nil, _, hq => PySem.W.kat_nil hq
  | _, _, _, _, j, .nil, .cons _ _ _, e, _ => by simp at e
  | _, _, _, _, j, .cons _ _ _, .nil, e, _ => by simp at e
  | _, _, _, _, j, .cons (vs := xs) (ns := ns) m t hx, .cons (vs := ys) (ns := ms) k u hy, e, hq => by
    refine PySem.W.kat_cons (wpAny_eqBool_int ?_)
    rw [HT.lexLt_cons] at hq
    by_cases c : m = k
    · rw [c, beq_self_eq_true]
      rw [if_pos c] at hq
      exact PySem.W.kat_yes (walk_lex (j + 1) hx hy (by simpa using e) hq)
    · rw [beq_eq_false_iff_ne.mpr c]
      rw [if_neg c] at hq
      exact PySem.W.kat_no (TS.oneLt_ints _ hq)
theorem tups_cmp {vs : List Value} {d : Nat} {k : Value → List Int} (hk : ∀ v ∈ vs, TS.TupInts s.heap v (k v) ∧ (k v).length = d) :
    SrtO.Cmp prog w A s (tuples' true) (fun p => p.1 ∈ vs) (SrtO.lt2 fun v u => HT.lexLt (k v) (k u)) := by
  intro p q hp hq
  obtain ⟨⟨a, xs, ea, ⟨o, go, _, n, dn⟩, ia⟩, la⟩ := hk _ hp
  obtain ⟨⟨c, ys, ec, ⟨o2, go2, _, n2, dn2⟩, ic⟩, lc⟩ := hk _ hq
  show wpAny _ _ (keyLt' (tuples' true) p.1 q.1) (fun r s' => s' = s ∧ r = HT.lexLt (k p.1) (k q.1)) (fun _ _ => False) s
  generalize k p.1 = kp at ia la ⊢
  generalize k q.1 = kq at ic lc ⊢
  rw [ea, ec]
  refine PySem.W.kat_lt go dn go2 dn2 ?_
  have l1 := ia.length
  have l2 := ic.length
  rw [Array.length_toList] at l1 l2
  rw [decide_eq_false (show ¬ xs.size < ys.size by omega)]
  exact walk_lex 0 ia ic (by omega) ⟨rfl, rfl⟩
theorem heads_of {h : Heap} {d : Nat} {k : Value → List Int} (hd : 1 ≤ d) : ∀ vs : List Value, (∀ v ∈ vs, TS.TupInts h v (k v) ∧ (k v).length = d) →
    ∃ fs, PySem.W.KatTups h vs fs ∧ fs.length = vs.length ∧ ∀ f ∈ fs, ∃ n t, f = Value.int n t
  | [], _ => ⟨[], .nil, rfl, by simp⟩
  | v :: vs, hk => by
    obtain ⟨fs, kt, kl, ki⟩ := heads_of hd vs fun u hu => hk u (by simp [hu])
    obtain ⟨⟨a, xs, rfl, ⟨o, go, oc, n, dn⟩, ia⟩, la⟩ := hk v (by simp)
    generalize k (.ref a) = kv at ia la
    cases hxs : xs.toList with
    | nil =>
      rw [hxs] at ia
      cases ia
      simp at la
      omega
    | cons y ys =>
      rw [hxs] at ia
      cases ia with
      | cons m t r =>
        refine ⟨.int m t :: fs, .cons go oc dn ?_ kt, by simp [kl], fun f hf => ?_⟩
        · have := congrArg (fun l : List Value => l[0]?) hxs
          simpa using this
        · rcases List.mem_cons.mp hf with rfl | hf
          · exact ⟨m, t, rfl⟩
          · exact ki f hf
theorem tups_sortable {a : Addr} {vs : List Value} {d : Nat} {k : Value → List Int} (h0 : 0 < vs.length) (hd : 1 ≤ d) (hk : ∀ v ∈ vs, TS.TupInts s.heap v (k v) ∧ (k v).length = d)
    (ha : ∀ o, s.heap.get? a = some o → o.cls ≠ .type "tuple") : SrtO.SortableO prog w A s a vs fun v u => HT.lexLt (k v) (k u) := by
  intro h2 keep
  have hk2 : ∀ v ∈ vs, TS.TupInts h2 v (k v) ∧ (k v).length = d := fun v hv => ⟨(hk v hv).1.keeps fun b o e c => keep b o (fun z => by subst z; exact ha o e c) e, (hk v hv).2⟩
  obtain ⟨fs, f1, f2, f3⟩ := heads_of hd vs hk2
  refine ⟨tuples' true, fun Q2 E2 q2 => ?_, tups_cmp (s := { s with heap := h2 }) hk2⟩
  refine PySem.W.kat_kind (T := .type "int") f1 (by omega) (fun f hf => ?_) (by rfl) ?_
  · obtain ⟨n, t, rfl⟩ := f3 f hf
    exact PySem.W.Looks.now
  · rw [show (Value.type "int" != Value.type "tuple") = true by decide +kernel]
    exact q2
end
end LFS
namespace LF
open PySem PySem.Spec PyProof.Rows L2
/-- sorted(xs): xs a list of tuples of d ints, by k -/
def rSortZ (K : PySem.W.Frag) (d : Nat) : List V → Hp → VK → Prop := fun vs H Q => ∃ (a : Addr) (xs : List V) (k : V → List Int), vs = [V.ref a] ∧ SqL K H a xs ∧ (∀ x ∈ xs, ∃ t, x = V.ref t ∧ SqT K H t ((k x).map V.int) ∧ (k x).length = d) ∧
  ∀ (ys : List V) (p : Addr), ys.Perm xs → ys.Pairwise (fun x y => HT.lexLt (k y) (k x) = false) → H p = none → Q (.ref p) (upd H p (.lst ys))
theorem cr_sortZ {X : Cx} {d : Nat} (hd : 1 ≤ d) : CallR X (.builtin "sorted") (rSortZ X.K d) := by
  intro pins s σ H vs us Q I r h
  obtain ⟨a, xs, k, rfl, hs, hx, q⟩ := h
  obtain ⟨its, rv, hl, hz⟩ := I.list hs
  rw [Vals.ref1 r]
  obtain ⟨e1, e2⟩ := bkV_refs rv fun x m => ⟨(hx x m).choose, (hx x m).choose_spec.1⟩
  have hk : ∀ v ∈ its, TS.TupInts s.heap v (k (bkV v)) ∧ (k (bkV v)).length = d := fun v hv => by
    obtain ⟨t, rfl⟩ := e2 v hv
    have hm : V.ref t ∈ xs := e1 ▸ List.mem_map.mpr ⟨_, hv, rfl⟩
    obtain ⟨t2, ht, hq, hn⟩ := hx _ hm
    cases ht
    exact ⟨tupI_raw I hq, hn⟩
  refine SrtO.sorted_ord (NtL.swo_lexL fun v => k (bkV v)) hl.isList (by rw [← rv.length]; exact hz) (fun h2 h1 a1 ha kk => ?_) fun out hs2 hb => ?_
  · refine LFS.tups_sortable (s := { s with heap := h1 }) (by omega) hd (fun v hv => ⟨(hk v hv).1.keeps fun b o e _ => (kk b o e).2, (hk v hv).2⟩) fun o e => ?_
    have e4 : some o = some (seqObj "list" its.toArray 0) := e.symm.trans ha
    cases e4
    exact fun c => absurd (Value.type.inj c) (by decide)
  · obtain ⟨ep, hat⟩ := PyProof.Rows.sortedAll_at s.heap its out.toArray
    have hall : ∀ u ∈ out, ∃ b, u = Value.ref b := fun u hu => e2 u (hb.perm.mem_iff.mp hu)
    have hp : (out.map bkV).Perm xs := e1 ▸ hb.perm.map bkV
    have hlen : (out.map bkV).length ≤ sizeLine := hp.length_eq ▸ hz
    refine ⟨.ref _, upd H (s.heap.objs.size + 1) (.lst (out.map bkV)), I.laid (t' := s.toks) (fun _ _ => PyProof.Rows.sortedAll_old) (Nat.le_succ _) ⟨hlen, out, ep, bkV_vals hall, hat⟩, rfl, q _ _ hp ?_ (I.hok.fresh (Nat.le_succ _))⟩
    rw [List.pairwise_map]
    exact hs2
/-- two ways to tell which of two rows of one length comes first -/
theorem lexLt_before : ∀ {a b : List Int}, a.length = b.length → HT.lexLt a b = Wp04.lexBefore a b
  | [], [], _ => rfl
  | [], _ :: _, h => by simp at h
  | _ :: _, [], h => by simp at h
  | x :: a, y :: b, h => by
    rw [HT.lexLt_cons]
    unfold Wp04.lexBefore
    rw [← lexLt_before (by simpa using h)]
    by_cases c : x = y
    · subst c
      simp
    · rw [if_neg c]
      simp [c]
end LF
end
section
set_option maxRecDepth 100000
set_option maxHeartbeats 4000000
/-! {k: v}, k a tuple: a dict of one entry -/
namespace LF
open PySem PySem.Spec PyProof.Rows L2
def tDispT (tk tv : TE) : TE := fun σ H Q => ∀ p, H p = none → tk σ (upd H p (.dT [])) fun x H1 => tv σ H1 fun y H2 => H2 p = some (.dT []) ∧
  ∃ (b : Addr) (k : List Key), x = .ref b ∧ H2 b = some (.tup (k.map kV)) ∧ Q (.ref p) (upd H2 p (.dT [(k, y)]))
theorem pe_dispT {X : Cx} {pos : Pos} {k v : Expr} {tk tv : TE} (hu : X.A.units < cLine) (hk : PE X k tk) (hv : PE X v tv) : PE X (.Dict [some k] [v] pos) (tDispT tk tv) := by
  refine ⟨fun pins s σ H Q I q => ?_⟩
  have new := I.hok.fresh (Nat.le_refl s.heap.objs.size)
  have I1 := I.laid (a := s.heap.objs.size) (o := .dT []) (h' := s.heap.push { cls := .type "dict", data := .dict #[] }) (t' := s.toks) (fun _ _ z => Heap.get?_push_of_some _ z) (Nat.le_refl _) (dt_empty s.heap I.big)
  refine wpAny_Dict_any rfl rfl (fun z => by cases z) (by simp) (pairTrees_cons_walk ?_)
  refine thn (hk.run pins _ σ _ _ I1 (q _ new)) fun u s1 ⟨x, H1, J1, rx, q1⟩ => ?_
  refine thn (hv.run pins s1 σ H1 _ J1 q1) fun u2 s2 ⟨y, H2, J2, ry, hp, b, ks, ex, hb, q2⟩ => ?_
  refine pairTrees_nil_walk ?_
  subst ex
  cases (show u = Value.ref b from rx)
  unfold storeAll
  rw [List.forIn_cons]
  obtain ⟨hz, hsys, xs, rel, dd⟩ := dt_of J2.hok hp
  have e0 : xs = [] := by cases rel; rfl
  subst e0
  refine wpAny_bind (wpAny_bind (wpAny_dictSet_heap (hsz := Nat.zero_le _) (knd := tupleKind (mixKind X.prog X.w)) hu (key_of J2.hok hb) dd fun h3 dd3 hs => wpAny_pure ?_))
  dsimp only
  rw [List.forIn_nil]
  refine wpAny_pure ⟨.ref s.heap.objs.size, _, ?_, rfl, q2⟩
  obtain ⟨qo, es, ep, hq, c2, c3, c4, _, c5⟩ := dd3
  refine d_write J2 (by rw [hp]; exact True.intro) hs ⟨qo, hq⟩ ⟨Nat.le_of_lt (small1000 (by simp)), hsys, _, ((KT.put (k := ks) rel hb ry)).keeps fun c ys ec => ?_, qo, es, ep, hq, c2, c3, c4, c5⟩
  rw [upd_ne (ne_of ec hp (fun z => nomatch z))]
  exact ec
end LF
end
section
set_option maxRecDepth 100000
set_option maxHeartbeats 4000000
namespace LF
open PySem PySem.Spec PyProof.Rows L2
variable {P : Program} {w : World} {K : PySem.W.Frag} {mg : Str → Option Value} {base : Heap}
/-- a def that may be called by its name -/
structure Cal (P : Program) (w : World) (K : PySem.W.Frag) (mg : Str → Option Value) (base : Heap) (x : Str) (k : Nat) (ps : List Str) (sp : Sp) where
  f : Addr
  fd : FuncData
  ok : FnOk P w K mg base CX0 k f fd ps sp
  mgx : mg x = some (.ref f)
  kp : PySem.W.keepIn K (.ref f) = true
  b : Binds K fd ps []
/-- tables at addresses -/
def TL (H : Hp) (L : List (Addr × List Int)) : Prop := ∀ p ∈ L, H p.1 = some (.tup (p.2.map V.int))
def refs (L : List (Addr × List Int)) : List V := L.map fun p => V.ref p.1
theorem TL.same {H H' : Hp} {L : List (Addr × List Int)} (h : TL H L) (s : Same H H') : TL H' L := fun p hp => s _ _ (h p hp)
theorem TL.at {H : Hp} {L : List (Addr × List Int)} (h : TL H L) {i : Nat} {p : Addr × List Int} (e : L[i]? = some p) : H p.1 = some (.tup (p.2.map V.int)) := h p (List.mem_of_getElem? e)
theorem refs_at {L : List (Addr × List Int)} {i : Nat} {v : V} (h : (refs L)[i]? = some v) : ∃ p, L[i]? = some p ∧ v = .ref p.1 := by
  unfold refs at h
  rw [List.getElem?_map] at h
  cases e : L[i]? with
  | none => rw [e] at h; cases h
  | some p => rw [e] at h; exact ⟨p, rfl, (Option.some.inj h).symm⟩
theorem at_refs {L : List (Addr × List Int)} {i : Nat} {p : Addr × List Int} (h : L[i]? = some p) : (refs L)[i]? = some (.ref p.1) := by
  unfold refs
  rw [List.getElem?_map, h]
  rfl
theorem len_refs (L : List (Addr × List Int)) : (refs L).length = L.length := by simp [refs]
/-- the dict of what is known -/
def kn (found : List (List Int)) : List (List Key × V) := found.map fun t => (t.map Sum.inl, V.bl true)
theorem keyV (t : List Int) : (t.map (Sum.inl : Int → Key)).map kV = t.map V.int := by
  rw [List.map_map]
  rfl
theorem inl_inj {t u : List Int} (h : t.map (Sum.inl : Int → Key) = u.map Sum.inl) : t = u := by
  have := congrArg (List.map fun k : Key => match k with | .inl i => i | .inr _ => 0) h
  rw [List.map_map, List.map_map] at this
  have e : ∀ l : List Int, l.map ((fun k : Key => match k with | .inl i => i | .inr _ => 0) ∘ Sum.inl) = l := fun l => (List.map_congr_left (g := fun i => i) fun _ _ => rfl).trans (by simp)
  rw [e, e] at this
  exact this
theorem kn_val (found : List (List Int)) (t : List Int) : (valV (kn found) (t.map Sum.inl)).isSome = decide (t ∈ found) := by
  induction found with
  | nil => rfl
  | cons u found ih =>
    unfold kn at ih ⊢
    rw [List.map_cons]
    by_cases e : u = t
    · subst e
      rw [valV_pos rfl]
      simp
    · rw [valV_neg (fun z => e (inl_inj z)), ih]
      have : t ≠ u := fun z => e z.symm
      simp [this]
/-- the table that stands at an address -/
def keyOf (Fl : List (Addr × List Int)) (v : V) : List Int := match v with
  | .ref a => ((Fl.find? fun p => decide (p.1 = a)).map (·.2)).getD []
  | _ => []
theorem int_inj {t u : List Int} (h : t.map V.int = u.map V.int) : t = u := by
  have := congrArg (List.map fun v : V => match v with | .int i => i | _ => 0) h
  rw [List.map_map, List.map_map] at this
  have e : ∀ l : List Int, l.map ((fun v : V => match v with | .int i => i | _ => 0) ∘ V.int) = l := fun l => (List.map_congr_left (g := fun i => i) fun _ _ => rfl).trans (by simp)
  rw [e, e] at this
  exact this
theorem keyOf_at {H : Hp} {Fl : List (Addr × List Int)} (tf : TL H Fl) {p : Addr × List Int} (hp : p ∈ Fl) : keyOf Fl (.ref p.1) = p.2 := by
  show ((Fl.find? fun q => decide (q.1 = p.1)).map (·.2)).getD [] = p.2
  cases e : Fl.find? fun q => decide (q.1 = p.1) with
  | none =>
    have := List.find?_eq_none.mp e p hp
    simp at this
  | some q =>
    have h1 : q.1 = p.1 := by simpa using List.find?_some e
    have h2 := tf q (List.mem_of_find?_eq_some e)
    rw [h1, tf p hp] at h2
    have h3 := HO.tup.inj (Option.some.inj h2)
    exact (int_inj h3).symm
theorem perm_refs {L : List (Addr × List Int)} {ys : List V} (h : ys.Perm (refs L)) : ∃ L2 : List (Addr × List Int), L2.Perm L ∧ refs L2 = ys := by
  unfold refs at h ⊢
  generalize e : L.map (fun p => V.ref p.1) = zs at h
  induction h generalizing L with
  | nil => exact ⟨L, List.Perm.refl _, e⟩
  | @cons x l1 l2 _ ih =>
    cases L with
    | nil => cases e
    | cons p L =>
      rw [List.map_cons] at e
      injection e with e1 e2
      obtain ⟨L2, h1, h2⟩ := ih e2
      exact ⟨p :: L2, h1.cons p, by rw [List.map_cons, h2, e1]⟩
  | swap x y l =>
    match L, e with
    | p :: q :: L, e =>
      rw [List.map_cons, List.map_cons] at e
      injection e with e1 e2
      injection e2 with e2 e3
      exact ⟨q :: p :: L, List.Perm.swap .., by rw [List.map_cons, List.map_cons, e1, e2, e3]⟩
  | trans _ _ ih1 ih2 =>
    obtain ⟨L2, h1, h2⟩ := ih2 e
    obtain ⟨L3, h3, h4⟩ := ih1 h2
    exact ⟨L3, h3.trans h1, h4⟩
abbrev sGo : Stmt := top 4
def NGo : List Str := ["n", "told", "found", "known", "place", "table", "another"]
theorem scGo : FnScope NGo ["n", "told"] (defScope sGo) := ⟨rfl, rfl, rfl, by decide +kernel, rfl, by decide +kernel, by decide +kernel⟩
/-- group_of -/
def spGo : Sp := fun vs H Q _ => ∃ (n : Nat) (l : Addr) (L : List (Addr × List Int)), vs = [.int n, .ref l] ∧ H l = some (.lst (refs L)) ∧ TL H L ∧ GC.GensIn n (L.map (·.2)) ∧ L.length ≤ 30 ∧
  (48 < (Wp04.group n (L.map (·.2))).length → ∀ H' : Hp, Same H H' → Q .non H') ∧
  ((Wp04.group n (L.map (·.2))).length ≤ 48 → ∀ (H' : Hp) (p : Addr) (G : List (Addr × List Int)), Same H H' → H p = none → H' p = some (.lst (refs G)) → TL H' G → G.map (·.2) = Wp04.group n (L.map (·.2)) → Q (.ref p) H')
theorem ok_go {f : Addr} {fd : FuncData} (F : Fun K "group_of" "group_of" sGo f fd) (B : Bi mg) (hM : ∃ t, mg "MOST_TABLES" = some (.int 48 t)) (cN : Cal P w K mg base "nothing_done" 1 ["n"] spNd) (cM : Cal P w K mg base "made" 1 ["n", "a", "b"] spMd) :
    FnOk P w K mg base CX0 2 f fd ["n", "told"] spGo := by
  obtain ⟨tk, hM⟩ := hM
  refine F.ok scGo (fun vs H Q E h => ?_) (fun cdv A outer s H vs Q E hr h => ?_)
  · obtain ⟨n, l, L, rfl, _⟩ := h
    rfl
  · have nd : NGo.Nodup := scGo.nd
    have hu := hu_of hr
    obtain ⟨n, l, L, rfl, hl, tl, G, hL, kNo, kYes⟩ := h
    have hn4 : 1 ≤ n * n := by rcases G.hn with rfl | rfl <;> decide
    refine ⟨_, pss_cons (ps_set (i := 2) nd rfl (Or.inl rfl) (pe_lst (pa_cons (pe_call cN.ok hr (by rfl) cN.mgx cN.kp cN.b .nil pass0 (pa_cons (pv 0) pa_nil)) pa_nil)))
      (pss_cons (ps_set (i := 3) nd rfl (Or.inl rfl) (pe_dispT (Nat.lt_of_succ_lt hu) (pe_ix (r := rIxL K) ix_list (pv 2) pe_int (fun _ _ => rfl)) pe_bl))
      (pss_cons (ps_set (i := 4) nd rfl (Or.inl rfl) pe_int)
      (pss_cons (ps_while PassesOwn.never (pt_cmpR op_lt (pv 4) (pe_callB call_len_seq (by rfl) B.len PySem.boot_len (pa_cons (pv 2) pa_nil)) (nomark _))
        (pss_cons (ps_for PassesOwn.never rfl (pi_list (pv 1)) (pg_name (i := 5) nd rfl (Or.inl rfl))
          (pss_cons (ps_set (i := 6) nd rfl (Or.inl rfl) (pe_call cM.ok hr (by rfl) cM.mgx cM.kp cM.b .nil pass0 (pa_cons (pv 0) (pa_cons (pe_ix (r := rIxL K) ix_list (pv 2) (pv 4) (fun _ _ => rfl)) (pa_cons (pv 5) pa_nil)))))
          (pss_one (ps_if (pt_cmp (pc_dnotin hu (pv 6) (pv 3)))
            (pss_cons (ps_dput hu (pv 3) (pv 6) pe_bl rfl)
            (pss_one (ps_expr (pe_bm PySem.F.plainAttrs_list PySem.F.slot_list_append PySem.F.type_list_append mt_append (pv 2) (pa_cons (pv 6) pa_nil))))) pss_nil))))
        (pss_cons (ps_if (pt_cmpR op_gt (pe_callB call_len_seq (by rfl) B.len PySem.boot_len (pa_cons (pv 2) pa_nil)) (pe_glob (v := .int 48) rfl hM ⟨_, rfl⟩) (nomark _)) (pss_one (ps_ret pe_non)) pss_nil)
        (pss_one (ps_aug (i := 4) nd rfl (Or.inl rfl) pe_int ip_add)))))
      (pss_one (ps_ret (pe_callB (cr_sortZ hn4) (by rfl) B.sorted (by decide +kernel) (pa_cons (pv 2) pa_nil))))))), ?_⟩
    -- found = [nothing_done(n)]
    refine ⟨_, rfl, n, rfl, G.hn, fun H1 q s1 hq h1 => ⟨show 1 ≤ sizeLine by decide, fun fo hfo => ?_⟩⟩
    have s1' : Same H (upd H1 fo (.lst [.ref q])) := s1.trans (same_upd hfo)
    have h1' : upd H1 fo (.lst [.ref q]) q = some (.tup ((Wp04.ident n).map V.int)) := by rw [upd_ne (ne_of_none h1 hfo)]; exact h1
    -- known = {found[0]: True}
    refine fun d hd => ⟨_, rfl, fo, _, 0, _, rfl, rfl, SqL.of (by rw [upd_ne (ne_of_none upd_same hd)]; exact upd_same), rfl, upd_same, q, (Wp04.ident n).map Sum.inl, rfl, by rw [keyV, upd_ne (ne_of_none h1' hd)]; exact h1', ?_⟩
    have hfd : fo ≠ d := ne_of_none (H := upd H1 fo (.lst [.ref q])) upd_same hd
    have hfoH : H fo = none := s1.free hfo
    have hdH : H d = none := s1'.free hd
    -- the while's state
    refine ⟨fun m σ H' => ∃ (Fl : List (Addr × List Int)) (k : Nat) (va vb : Option V), m = 100 - k ∧ σ = [some (.int n), some (.ref l), some (.ref fo), some (.ref d), some (.int k), va, vb] ∧ Same H H' ∧
      H' fo = some (.lst (refs Fl)) ∧ H' d = some (.dT (kn (Fl.map (·.2)))) ∧ TL H' Fl ∧ GC.FI n (L.map (·.2)) (Fl.map (·.2)) ∧ GC.Cl n (L.map (·.2)) (Fl.map (·.2)) k ∧ k ≤ Fl.length ∧ Fl.length ≤ 48, ⟨100, [(q, Wp04.ident n)], 0, none, none, rfl, rfl, ?_⟩, ?_⟩
    · have s2 : Same H (upd (upd H1 fo (.lst [.ref q])) d (.dT [])) := s1'.trans (same_upd hd)
      refine ⟨fun b o hb => ?_, ?_, upd_same, fun x hx => ?_, GC.FI.start n _, fun i p hi => by omega, by simp, by simp⟩
      · rw [upd_ne (ne_of_none hb hdH)]
        exact s2 b o hb
      · rw [upd_ne hfd, upd_ne hfd]
        exact upd_same
      · simp at hx; subst hx
        have hqd : q ≠ d := ne_of_none h1' hd
        rw [upd_ne hqd, upd_ne hqd]
        exact h1'
    · rintro m σ H' ⟨Fl, k, va, vb, rfl, rfl, s2, e1, e2, tf, fi, cl, hk, h48⟩
      refine ⟨_, rfl, _, rfl, fo, _, rfl, .inl (SqL.of e1), _, _, rfl, rfl, _, rfl, ?_⟩
      rw [len_refs]
      by_cases c : k < Fl.length
      · refine ifT (decide_eq_true (by omega)) ?_
        refine ⟨fun σ' H2 => ∃ (Fl : List (Addr × List Int)) (va vb : Option V), σ' = [some (.int n), some (.ref l), some (.ref fo), some (.ref d), some (.int ((k + 1 : Nat) : Int)), va, vb] ∧ Same H H2 ∧
          H2 fo = some (.lst (refs Fl)) ∧ H2 d = some (.dT (kn (Fl.map (·.2)))) ∧ TL H2 Fl ∧ GC.FI n (L.map (·.2)) (Fl.map (·.2)) ∧ GC.Cl n (L.map (·.2)) (Fl.map (·.2)) (k + 1) ∧ k + 1 ≤ Fl.length ∧ Fl.length ≤ 48, ?_, ?_⟩
        · rintro σ' H2 ⟨Fl, va, vb, rfl, r⟩
          exact ⟨100 - (k + 1), by omega, Fl, k + 1, va, vb, rfl, rfl, r⟩
        · obtain ⟨pk, hpk⟩ : ∃ pk, Fl[k]? = some pk := ⟨_, List.getElem?_eq_getElem c⟩
          refine ⟨_, rfl, l, rfl, ⟨_, SqL.of (s2 _ _ hl)⟩, for_list (K := K) (a := l) (xs := refs L) (fun j σ H2 => ∃ (Fl : List (Addr × List Int)) (va vb : Option V), σ = [some (.int n), some (.ref l), some (.ref fo), some (.ref d), some (.int k), va, vb] ∧ Same H H2 ∧
            H2 fo = some (.lst (refs Fl)) ∧ H2 d = some (.dT (kn (Fl.map (·.2)))) ∧ TL H2 Fl ∧ GC.FI n (L.map (·.2)) (Fl.map (·.2)) ∧ GC.Cl n (L.map (·.2)) (Fl.map (·.2)) k ∧ Fl[k]? = some pk ∧ (∀ g ∈ (L.map (·.2)).take j, Wp04.then_ n pk.2 g ∈ Fl.map (·.2)) ∧ Fl.length ≤ 48 + j)
            ⟨Fl, va, vb, rfl, s2, e1, e2, tf, fi, cl, hpk, by simp, by omega⟩ (fun j σ H2 _ ⟨_, _, _, _, s3, _⟩ => SqL.of (s3 _ _ hl)) ?_ ?_⟩
          · rintro j v σ H2 hj ⟨Fl, va, vb, rfl, s3, e1, e2, tf, fi, cl, hpk, hin, hlen⟩
            obtain ⟨pj, hpj, rfl⟩ := refs_at hj
            have hjL : j < L.length := (List.getElem?_eq_some_iff.mp hpj).1
            have hgj : pj.2 ∈ L.map (·.2) := List.mem_map.mpr ⟨pj, List.mem_of_getElem? hpj, rfl⟩
            have hpk2 : pk.2 ∈ Fl.map (·.2) := List.mem_map.mpr ⟨pk, List.mem_of_getElem? hpk, rfl⟩
            have hlen2 : (Fl.map (·.2)).length ≤ 100 := by simp; omega
            refine ⟨_, rfl, _, rfl, _, rfl, fo, _, _, _, rfl, rfl, SqL.of e1, at_of rfl (at_refs hpk), _, rfl, n, pk.1, pj.1, pk.2, pj.2, rfl, G.hn, tf.at hpk, s3 _ _ (tl.at hpj), GC.len_reach (fi.re _ hpk2), G.len _ hgj, fi.short hlen2 hpk2,
              fun z hz => Nat.lt_of_le_of_lt (G.two _ hgj z hz) (by decide +kernel), fun H3 an s4 han h4 => ?_⟩
            have e1' := s4 _ _ e1
            have e2' := s4 _ _ e2
            have tf' := tf.same s4
            have s5 : Same H H3 := s3.trans s4
            refine ⟨_, rfl, _, rfl, d, _, rfl, DGet.t (k := (Wp04.then_ n pk.2 pj.2).map Sum.inl) e2' (by rw [keyV]; exact h4), _, rfl, ?_⟩
            rw [kn_val]
            have htake : (L.map (·.2)).take (j + 1) = (L.map (·.2)).take j ++ [pj.2] := by
              rw [List.take_add_one, List.getElem?_map, hpj]
              rfl
            by_cases hin2 : Wp04.then_ n pk.2 pj.2 ∈ Fl.map (·.2)
            · refine ifF (by simp [hin2]) ?_
              refine ⟨Fl, some (.ref pj.1), some (.ref an), rfl, s5, e1', e2', tf', fi, cl, hpk, fun g hg => ?_, by omega⟩
              rw [htake] at hg
              rcases List.mem_append.mp hg with h | h
              · exact hin g h
              · simp at h; subst h; exact hin2
            · refine ifT (by simp [hin2]) ?_
              have hkl : (kn (Fl.map (·.2))).length < sizeLine := small1000 (by simp [kn]; omega)
              refine ⟨_, rfl, _, rfl, d, _, rfl, DPut.t (k := (Wp04.then_ n pk.2 pj.2).map Sum.inl) e2' (by rw [keyV]; exact h4) hkl, ?_⟩
              have hval : valV (kn (Fl.map (·.2))) ((Wp04.then_ n pk.2 pj.2).map Sum.inl) = none := by
                have := kn_val (Fl.map (·.2)) (Wp04.then_ n pk.2 pj.2)
                rw [decide_eq_false hin2] at this
                exact Option.isNone_iff_eq_none.mp (by simpa using this)
              rw [putK_new _ hval]
              have hfd3 : fo ≠ d := hfd
              have e1'' : upd H3 d (.dT (kn (Fl.map (·.2)) ++ [((Wp04.then_ n pk.2 pj.2).map Sum.inl, .bl true)])) fo = some (.lst (refs Fl)) := by rw [upd_ne hfd3]; exact e1'
              refine ⟨_, rfl, .inl ⟨rfl, _, SqL.of e1''⟩, _, rfl, fo, _, _, rfl, rfl, e1'', small1000 (by rw [len_refs]; omega), ?_⟩
              have hand : an ≠ d := fun z => by rw [z] at h4; rw [h4] at e2'; cases e2'
              have hanf : an ≠ fo := fun z => by rw [z] at h4; rw [h4] at e1'; cases e1'
              have hold : ∀ b o, H3 b = some o → b ≠ d → b ≠ fo → (upd (upd H3 d (.dT (kn (Fl.map (·.2)) ++ [((Wp04.then_ n pk.2 pj.2).map Sum.inl, .bl true)]))) fo (.lst (refs Fl ++ [.ref an]))) b = some o := fun b o hb n1 n2 => by
                rw [upd_ne n2, upd_ne n1]; exact hb
              refine ⟨Fl ++ [(an, Wp04.then_ n pk.2 pj.2)], some (.ref pj.1), some (.ref an), rfl, fun b o hb => hold b o (s5 b o hb) (ne_of_none hb hdH) (ne_of_none hb hfoH), ?_, ?_, ?_, ?_, ?_, ?_, ?_, ?_⟩
              · rw [upd_same]; simp [refs]
              · rw [upd_ne (fun z => hfd3 z.symm), upd_same]; simp [kn]
              · intro x hx
                rcases List.mem_append.mp hx with hx | hx
                · have hx3 := tf' x hx
                  refine hold _ _ hx3 (fun z => ?_) (fun z => ?_)
                  · rw [z] at hx3; rw [hx3] at e2'; cases e2'
                  · rw [z] at hx3; rw [hx3] at e1'; cases e1'
                · simp at hx; subst hx
                  exact hold _ _ h4 hand hanf
              · rw [List.map_append]
                exact fi.more G (i := k) (p := pk.2) (by rw [List.getElem?_map, hpk]; rfl) hgj hin2
              · intro i p hi hp g hg
                rw [List.map_append]
                rw [List.map_append, List.getElem?_append_left (by simp; have := (List.getElem?_eq_some_iff.mp hpk).1; omega)] at hp
                exact List.mem_append_left _ (cl i p hi hp g hg)
              · rw [List.getElem?_append_left (List.getElem?_eq_some_iff.mp hpk).1]
                exact hpk
              · intro g hg
                rw [htake] at hg
                rw [List.map_append]
                rcases List.mem_append.mp hg with h | h
                · exact List.mem_append_left _ (hin g h)
                · simp at h; subst h; exact List.mem_append_right _ (by simp)
              · simp; omega
          · rintro σ H2 ⟨Fl, va, vb, rfl, s3, e1, e2, tf, fi, cl, hpk, hin, hlen⟩
            rw [len_refs, ← List.length_map (f := (·.2)), List.take_length] at hin
            refine ⟨_, rfl, fo, _, rfl, .inl (SqL.of e1), _, _, rfl, rfl, _, rfl, ?_⟩
            rw [len_refs]
            by_cases c2 : 48 < Fl.length
            · refine ifT (decide_eq_true (by omega)) ?_
              exact kNo (GC.group_more fi.nd fi.re (by simpa using c2)) H2 s3
            · refine ifF (decide_eq_false (by omega)) ?_
              refine ⟨_, rfl, _, _, rfl, rfl, ?_⟩
              refine ⟨Fl, va, vb, rfl, s3, e1, e2, tf, fi, fun i p hi hp g hg => ?_, (List.getElem?_eq_some_iff.mp hpk).1, by omega⟩
              by_cases q2 : i = k
              · subst q2
                rw [List.getElem?_map, hpk] at hp
                cases hp
                exact hin g hg
              · exact cl i p (by omega) hp g hg
      · refine ifF (decide_eq_false (by omega)) ?_
        have hkk : k = Fl.length := by omega
        rw [hkk, ← List.length_map (f := (·.2))] at cl
        have hc := GC.FI.closed cl
        have hperm := GC.group_is fi.nd fi.id fi.re hc (by simpa using h48)
        -- sorted(found)
        have hkey : ∀ p ∈ Fl, keyOf Fl (.ref p.1) = p.2 := fun p hp => keyOf_at tf hp
        have hlen9 : ∀ p ∈ Fl, p.2.length = n * n := fun p hp => GC.len_reach (fi.re _ (List.mem_map.mpr ⟨p, hp, rfl⟩))
        refine ⟨_, rfl, fo, refs Fl, keyOf Fl, rfl, SqL.of e1, ?_, ?_⟩
        · intro x hx
          obtain ⟨p, hp, rfl⟩ := List.mem_map.mp hx
          refine ⟨p.1, rfl, ?_, ?_⟩
          · rw [hkey p hp]; exact SqT.of (tf p hp)
          · rw [hkey p hp]; exact hlen9 p hp
        · intro ys r hp hs hr
          obtain ⟨L2, hL2, eL2⟩ := perm_refs hp
          subst eL2
          have htl : TL H' L2 := fun p hp => tf p (hL2.mem_iff.mp hp)
          have ek : L2.map (·.2) = (refs L2).map (keyOf Fl) := by
            unfold refs
            rw [List.map_map]
            exact List.map_congr_left fun p hp => (hkey p (hL2.mem_iff.mp hp)).symm
          have hnd2 : (L2.map (·.2)).Nodup := (hL2.map (·.2)).symm.nodup fi.nd
          have hlt : (L2.map (·.2)).Pairwise GC.Lt := by
            have h1 : (L2.map (·.2)).Pairwise fun x y => HT.lexLt y x = false := by
              rw [ek, List.pairwise_map]; exact hs
            refine List.Pairwise.imp_of_mem ?_ (h1.and hnd2)
            rintro x y hx hy ⟨h3, h4⟩
            obtain ⟨px, hpx, rfl⟩ := List.mem_map.mp hx
            obtain ⟨py, hpy, rfl⟩ := List.mem_map.mp hy
            have lx := hlen9 px (hL2.mem_iff.mp hpx)
            have ly := hlen9 py (hL2.mem_iff.mp hpy)
            rw [lexLt_before (by rw [lx, ly])] at h3
            exact GC.lex_total (by rw [lx, ly]) (fun e => h4 e.symm) h3
          have hg := GC.group_sorted_is fi.nd fi.id fi.re hc (by simpa using h48) hlt (hL2.map (·.2))
          have s6 : Same H (upd H' r (.lst (refs L2))) := s2.trans (same_upd hr)
          refine kYes hperm.2 _ r L2 s6 (s2.free hr) upd_same (htl.same (same_upd hr)) hg.symm
end LF
end
section
set_option maxRecDepth 100000
set_option maxHeartbeats 4000000
namespace LF
open PySem PySem.Spec PyProof.Rows L2
variable {P : Program} {w : World} {K : PySem.W.Frag} {mg : Str → Option Value} {base : Heap}
theorem dpInts {H : Hp} : ∀ t : List Int, DpAll K H (t.map V.int) (t.map PyData.int)
  | [] => .nil
  | x :: t => .cons (.int x) (dpInts t)
theorem lay_ints : ∀ t : List Int, PyData.canLayAll0 (t.map PyData.int) = true
  | [] => rfl
  | x :: t => by
    rw [List.map_cons, PyData.canLayAll0, lay_ints t]
    rfl
theorem depth_ints : ∀ t : List Int, PyData.depthAll (t.map PyData.int) = 0
  | [] => rfl
  | x :: t => by
    rw [List.map_cons, PyData.depthAll, depth_ints t]
    rfl
theorem shaped_ints (t : List Int) : SeqAt.shaped (.tuple (t.map PyData.int)) = true := by
  unfold SeqAt.shaped
  rw [PyData.canLay0, lay_ints, PyData.depth, depth_ints]
  rfl
theorem eqv_ints : ∀ t u : List Int, PyData.eqvAll (t.map PyData.int) (u.map PyData.int) = decide (t = u)
  | [], [] => rfl
  | [], _ :: _ => rfl
  | _ :: _, [] => rfl
  | x :: t, y :: u => by
    rw [List.map_cons, List.map_cons, PyData.eqvAll, eqv_ints t u, PyData.eqv]
    by_cases e : x = y
    · subst e
      simp
    · simp [e]
theorem eqv_tups (t u : List Int) : PyData.eqv (.tuple (t.map PyData.int)) (.tuple (u.map PyData.int)) = decide (t = u) := by
  rw [PyData.eqv]
  exact eqv_ints t u
abbrev sCu : Stmt := top 5
def NCu : List Str := ["n", "table", "group", "nothing", "other"]
theorem scCu : FnScope NCu ["n", "table", "group"] (defScope sCu) := ⟨rfl, rfl, rfl, by decide +kernel, rfl, by decide +kernel, by decide +kernel⟩
/-- can_be_undone -/
def spCu : Sp := fun vs H Q _ => ∃ (n : Nat) (a g : Addr) (t : List Int) (G : List (Addr × List Int)), vs = [.int n, .ref a, .ref g] ∧ (n = 2 ∨ n = 3) ∧ H a = some (.tup (t.map V.int)) ∧ H g = some (.lst (refs G)) ∧ TL H G ∧
  t.length = n * n ∧ Bd 1000 t ∧ (∀ p ∈ G, p.2.length = n * n ∧ Bd 1000 p.2) ∧ G.length ≤ 1000 ∧ ∀ H' : Hp, Same H H' → Q (.bl (G.any fun p => decide (Wp04.then_ n t p.2 = Wp04.ident n))) H'
theorem ok_cu {f : Addr} {fd : FuncData} (F : Fun K "can_be_undone" "can_be_undone" sCu f fd) (B : Bi mg) (cN : Cal P w K mg base "nothing_done" 1 ["n"] spNd) (cM : Cal P w K mg base "made" 1 ["n", "a", "b"] spMd) :
    FnOk P w K mg base CX0 2 f fd ["n", "table", "group"] spCu := by
  refine F.ok scCu (fun vs H Q E h => ?_) (fun cdv A outer s H vs Q E hr h => ?_)
  · obtain ⟨n, a, g, t, G, rfl, _⟩ := h
    rfl
  · have nd : NCu.Nodup := scCu.nd
    obtain ⟨n, a, g, t, G, rfl, hn, ha, hg, tg, lt, bt, hG, hGl, k⟩ := h
    refine ⟨_, pss_cons (ps_set (i := 3) nd rfl (Or.inr rfl) (pe_call cN.ok hr (by rfl) cN.mgx cN.kp cN.b .nil pass0 (pa_cons (pv 0) pa_nil)))
      (pss_one (ps_ret (pe_callB (cr_any rfl) (by rfl) B.any (by decide +kernel) (pa_cons
        (pe_lc (own := [("other", 4)]) (g := gName 4) (tt := tYes) rfl nd (pi_list (pv 2))
          (blkOk_by (N := NCu) (sc := defScope sCu) (by decide +kernel)) (fun _ _ _ _ _ => pg_name (i := 4) nd rfl (Or.inl rfl)) (fun _ _ _ _ _ => pts_nil)
          (fun _ _ _ _ _ => pe_cmpR (r := rEqD K) (op_eqD hr.units) (pe_call cM.ok hr (by rfl) cM.mgx cM.kp cM.b .nil pass0 (pa_cons (pv 0) (pa_cons (pv 1) (pa_cons (pv 4) pa_nil)))) (pv 3) (nomark _))) pa_nil)))), ?_⟩
    refine ⟨_, rfl, n, rfl, hn, fun H1 q s1 hq h1 => ?_⟩
    refine ⟨_, rfl, g, rfl, ⟨_, SqL.of (s1 _ _ hg)⟩, fun D hD => ?_⟩
    refine lc_list (K := K) (a := g) (xs := refs G) (fun i H2 => Same H1 H2 ∧ H2 D = some (.lst (((G.take i).map fun p => decide (Wp04.then_ n t p.2 = Wp04.ident n)).map V.bl))) ⟨same_upd hD, by rw [upd_same]; simp⟩
      (fun i H2 _ ⟨s2, _⟩ => SqL.of (s2 _ _ (s1 _ _ hg))) ?_ ?_
    · rintro i x H2 hx ⟨s2, h2⟩
      obtain ⟨p, hp, rfl⟩ := refs_at hx
      have hpm := List.mem_of_getElem? hp
      have s3 : Same H H2 := s1.trans s2
      refine ⟨rfl, ?_⟩
      refine ⟨_, rfl, _, rfl, _, rfl, n, a, p.1, t, p.2, rfl, hn, s3 _ _ ha, s3 _ _ (tg p hpm), lt, (hG p hpm).1, bt, (hG p hpm).2, fun H3 r s4 hr4 h4 => ?_⟩
      refine ⟨_, rfl, .tuple _, .tuple _, .tup (SqT.of h4) (dpInts _), .tup (SqT.of (s4 _ _ (s2 _ _ h1))) (dpInts _), shaped_ints _, shaped_ints _, ?_⟩
      rw [eqv_tups]
      refine ⟨_, s4 _ _ h2, small1000 (by simp; have := (List.getElem?_eq_some_iff.mp hp).1; omega), fun b o hb => ?_, ?_⟩
      · rw [upd_ne (ne_of_none hb hD)]
        exact s4 _ _ (s2 _ _ hb)
      · rw [upd_same, List.take_add_one, hp]
        simp
    · rintro H2 ⟨s2, h2⟩
      rw [len_refs, List.take_length] at h2
      refine ⟨D, _, rfl, SqL.of h2, ?_⟩
      have := k H2 (s1.trans s2)
      rw [List.any_map]
      exact this
end LF
end
section
set_option maxRecDepth 100000
set_option maxHeartbeats 4000000
namespace LF
open PySem PySem.Spec PyProof.Rows L2
/-! ### a dict of the top whose keys and values are whole numbers -/
/-- the entries are these pairs -/
def KI : List DictEntry → List (Int × Int) → Prop
  | [], [] => True
  | e :: r, kv :: m => ((∃ t, e.key = .int kv.1 t) ∧ e.hash = hashInt kv.1 ∧ ∃ t, e.val = .int kv.2 t) ∧ KI r m
  | _, _ => False
/-- at d the top has written the dict of these pairs -/
structure KDi (K : PySem.W.Frag) (d : Addr) (kvs : List (Int × Int)) : Prop where
  at_ : ∃ es n, K.lookup d = some ⟨.type "dict", none, .dict es n, #[]⟩ ∧ KI es.toList kvs
  low : (d == sysModules) = false
theorem KI.keys {P : Program} {w : World} : ∀ {l : List DictEntry} {kvs : List (Int × Int)}, KI l kvs → ∀ e ∈ l, ∃ k, (intKind P w).is k e.key = true ∧ e.hash = (intKind P w).hash k
  | e :: r, kv :: m, h, x, hx => by
    obtain ⟨⟨⟨t, h1⟩, h2, _⟩, h3⟩ := h
    rcases List.mem_cons.mp hx with rfl | q
    · exact ⟨kv.1, by rw [h1]; exact intKind_is P w _ _, h2⟩
    · exact KI.keys h3 x q
  | [], _, _, x, hx => by cases hx
  | _ :: _, [], h, _, _ => h.elim
theorem KI.find {P : Program} {w : World} (k : Int) : ∀ {l : List DictEntry} {kvs : List (Int × Int)}, KI l kvs →
    match kvs.lookup k with
    | none => (l.find? fun e => (intKind P w).is k e.key) = none
    | some v => ∃ e t, (l.find? fun e => (intKind P w).is k e.key) = some e ∧ e.val = .int v t
  | [], [], _ => rfl
  | e :: r, kv :: m, h => by
    obtain ⟨⟨⟨t, h1⟩, _, u, h4⟩, h3⟩ := h
    have ih := KI.find (P := P) (w := w) k h3
    obtain ⟨a, b⟩ := kv
    by_cases c : k = a
    · have q : List.lookup k ((a, b) :: m) = some b := by simp [List.lookup, c]
      rw [q]
      refine ⟨e, u, ?_, h4⟩
      rw [List.find?_cons_of_pos]
      rw [h1, c]
      exact intKind_is P w _ _
    · have q : List.lookup k ((a, b) :: m) = List.lookup k m := by
        have c' : (k == a) = false := by simpa using c
        simp only [List.lookup, c']
      have z : ¬ (intKind P w).is k e.key = true := by
        rw [h1]
        intro y
        have y' : Value.isInt k (Value.int a t) = true := y
        obtain ⟨t', e'⟩ := Value.isInt_shape y'
        injection e' with e1
        exact c e1.symm
      rw [q, List.find?_cons_of_neg (p := fun e : DictEntry => (intKind P w).is k e.key) z]
      exact ih
  | [], _ :: _, h => h.elim
  | _ :: _, [], h => h.elim
section
variable {X : Cx} {d : Addr} {kvs : List (Int × Int)}
/-- what the dict is, as a map -/
theorem KDi.map {pins : List (Addr × Obj)} {σ : L2.St} {H : Hp} {s : Shared} (D : KDi X.K d kvs) (I : Inv X pins σ H s) :
    ∃ f : Int → Option Value, s.heap.MapOf (intKind X.prog X.w) d f ∧ ∀ k, (match kvs.lookup k with | none => f k = none | some v => ∃ t, f k = some (.int v t)) := by
  obtain ⟨es, n, hl, hk⟩ := D.at_
  refine ⟨fun k => findBy (intKind X.prog X.w).is es k, ⟨_, es, n, I.kIn _ _ hl, ⟨rfl, rfl, rfl⟩, rfl, fun e he => hk.keys e (Array.mem_toList_iff.mpr he), fun _ => rfl⟩, fun k => ?_⟩
  have q := KI.find (P := X.prog) (w := X.w) k hk
  obtain ⟨l⟩ := es
  show match kvs.lookup k with
    | none => findBy (intKind X.prog X.w).is l.toArray k = none
    | some v => ∃ t, findBy (intKind X.prog X.w).is l.toArray k = some (.int v t)
  unfold findBy
  rw [List.find?_toArray]
  cases c : kvs.lookup k with
  | none =>
    rw [c] at q
    have q' : (l.find? fun e => (intKind X.prog X.w).is k e.key) = none := q
    rw [q']
    rfl
  | some v =>
    rw [c] at q
    obtain ⟨e, t, q1, q2⟩ := q
    have q' : (l.find? fun e => (intKind X.prog X.w).is k e.key) = some e := q1
    refine ⟨t, ?_⟩
    rw [q']
    exact congrArg some q2
def rNotInI (d : Addr) (kvs : List (Int × Int)) : R2 := fun x y H Q => ∃ k : Int, x = .int k ∧ y = .ref d ∧ Q (.bl (!(kvs.lookup k).isSome)) H
theorem op_notInI (D : KDi X.K d kvs) : OpR X (compareOp .NotIn) (rNotInI d kvs) := by
  intro pins s σ H x y v u Q I rx ry h
  obtain ⟨k, rfl, rfl, q⟩ := h
  obtain ⟨t, rfl⟩ := rx
  cases ry
  obtain ⟨f, hm, hf⟩ := D.map I
  refine wpAny_notIn_of (intKind_is X.prog X.w k t) D.low hm ⟨.bl (!(f k).isSome), H, I.tok _, rfl, ?_⟩
  have z := hf k
  cases c : kvs.lookup k with
  | none =>
    rw [c] at z q
    rw [z]
    exact q
  | some v =>
    rw [c] at z q
    obtain ⟨t', z⟩ := z
    rw [z]
    exact q
def rInI (d : Addr) (kvs : List (Int × Int)) : R2 := fun x y H Q => ∃ k : Int, x = .int k ∧ y = .ref d ∧ Q (.bl (kvs.lookup k).isSome) H
theorem op_inI (D : KDi X.K d kvs) : OpR X (compareOp .In) (rInI d kvs) := by
  intro pins s σ H x y v u Q I rx ry h
  obtain ⟨k, rfl, rfl, q⟩ := h
  obtain ⟨t, rfl⟩ := rx
  cases ry
  obtain ⟨f, hm, hf⟩ := D.map I
  refine wpAny_in_of (intKind_is X.prog X.w k t) D.low hm ⟨.bl (f k).isSome, H, I.tok _, rfl, ?_⟩
  have z := hf k
  cases c : kvs.lookup k with
  | none =>
    rw [c] at z q
    rw [z]
    exact q
  | some v =>
    rw [c] at z q
    obtain ⟨t', z⟩ := z
    rw [z]
    exact q
def rIxI (d : Addr) (kvs : List (Int × Int)) : R2 := fun x y H Q => ∃ k v : Int, x = .ref d ∧ y = .int k ∧ kvs.lookup k = some v ∧ Q (.int v) H
theorem ix_intD (D : KDi X.K d kvs) : IxR X (rIxI d kvs) := by
  intro value slice pins s σ H x y v u Q I rx ry h hs
  obtain ⟨k, c, rfl, rfl, e, q⟩ := h
  cases rx
  obtain ⟨t, rfl⟩ := ry
  obtain ⟨f, hm, hf⟩ := D.map I
  have z := hf k
  rw [e] at z
  obtain ⟨t', z⟩ := z
  exact tail_any hm.typeIs slot_dict_getitem.lookup (wpAny_getItem_of (intKind_is X.prog X.w k t) hm z ⟨.int c, H, I.tok _, ⟨t', rfl⟩, q⟩) hs
end
end LF
end
section
set_option maxRecDepth 100000
set_option maxHeartbeats 4000000
namespace LF
open PySem PySem.Spec PyProof.Rows L2
variable {P : Program} {w : World} {K : PySem.W.Frag} {mg : Str → Option Value} {base : Heap}
abbrev sIt : Stmt := top 58
def NIt : List Str := ["n", "numbers", "number"]
theorem scIt : FnScope NIt ["n", "numbers"] (defScope sIt) := ⟨rfl, rfl, rfl, by decide +kernel, rfl, by decide +kernel, by decide +kernel⟩
/-- the numbers of a table that may be told -/
def isTab (n : Nat) (ns : List Int) : Bool := decide ((ns.length : Int) = (n : Int) * n) && ns.all fun z => decide ((if z < 0 then -z else z) ≤ 2)
/-- is_table -/
def spIt : Sp := fun vs H Q _ => ∃ (n : Nat) (a : Addr) (ns : List Int), vs = [.int n, .ref a] ∧ n ≤ 3 ∧ H a = some (.lst (ns.map V.int)) ∧ ns.length ≤ 1000 ∧ ∀ H' : Hp, Same H H' → Q (.bl (isTab n ns)) H'
theorem ok_it {f : Addr} {fd : FuncData} (F : Fun K "is_table" "is_table" sIt f fd) (B : Bi mg) {tk : Tok} (hG : mg "GREATEST_IN_TABLE" = some (.int 2 tk)) :
    FnOk P w K mg base CX0 1 f fd ["n", "numbers"] spIt := by
  refine F.ok scIt (fun vs H Q E h => ?_) (fun cdv A outer s H vs Q E hr h => ?_)
  · obtain ⟨n, a, ns, rfl, _⟩ := h
    rfl
  · have nd : NIt.Nodup := scIt.nd
    obtain ⟨n, a, ns, rfl, hn, ha, hl, k⟩ := h
    refine ⟨_, pss_one (ps_ret (pe_and (pe_cmpR op_eq (pe_callB call_len_seq (by rfl) B.len PySem.boot_len (pa_cons (pv 1) pa_nil)) (pe_op op_mul (pv 0) (pv 0)) (nomark _))
      (pe_one (pe_callB (cr_all rfl) (by rfl) B.all (by decide +kernel) (pa_cons
        (pe_lc (own := [("number", 2)]) (g := gName 2) (tt := tYes) rfl nd (pi_list (pv 1))
          (blkOk_by (N := NIt) (sc := defScope sIt) (by decide +kernel)) (fun _ _ _ _ _ => pg_name (i := 2) nd rfl (Or.inl rfl)) (fun _ _ _ _ _ => pts_nil)
          (fun _ _ _ _ _ => pe_cmpR op_le (pe_callB call_abs (by rfl) B.abs (by decide +kernel) (pa_cons (pv 2) pa_nil)) (pe_glob (v := .int 2) rfl hG ⟨_, rfl⟩) (nomark _))) pa_nil))))), ?_⟩
    refine ⟨_, rfl, a, _, rfl, .inl (SqL.of ha), ?_⟩
    refine ⟨_, rfl, _, rfl, _, _, rfl, rfl, .inl ⟨by omega, by omega⟩, ?_⟩
    refine ⟨rfl, _, rfl, ?_⟩
    have ec : decide (V.int (((ns.map V.int).length : Nat) : Int) = V.int ((n : Int) * n)) = decide ((ns.length : Int) = (n : Int) * n) := by
      rw [List.length_map]
      exact decide_eq_decide.mpr ⟨fun e => V.int.inj e, fun e => by rw [e]⟩
    by_cases c : (ns.length : Int) = (n : Int) * n
    · refine ifT (ec.trans (decide_eq_true c)) ?_
      refine ⟨_, rfl, a, rfl, ⟨_, SqL.of ha⟩, fun D hD => ?_⟩
      refine lc_list (K := K) (a := a) (xs := ns.map V.int) (fun i H2 => Same H H2 ∧ H2 D = some (.lst (((ns.take i).map fun z => decide ((if z < 0 then -z else z) ≤ 2)).map V.bl))) ⟨same_upd hD, by rw [upd_same]; simp⟩
        (fun i H2 _ ⟨s2, _⟩ => SqL.of (s2 _ _ ha)) ?_ ?_
      · rintro i x H2 hx ⟨s2, h2⟩
        obtain ⟨z, hz, rfl⟩ : ∃ z, ns[i]? = some z ∧ V.int z = x := by
          rw [List.getElem?_map] at hx
          cases q : ns[i]? with
          | none =>
            rw [q] at hx
            cases hx
          | some z =>
            rw [q] at hx
            exact ⟨z, rfl, Option.some.inj hx⟩
        refine ⟨rfl, ?_⟩
        refine ⟨_, rfl, z, rfl, _, _, rfl, rfl, _, h2, small1000 (by simp; have := (List.getElem?_eq_some_iff.mp hz).1; omega), fun b o hb => ?_, ?_⟩
        · rw [upd_ne (ne_of_none hb hD)]
          exact s2 _ _ hb
        · rw [upd_same, List.take_add_one, hz]
          simp
      · rintro H2 ⟨s2, h2⟩
        rw [List.length_map, List.take_length] at h2
        refine ⟨D, _, rfl, SqL.of h2, ?_⟩
        have := k H2 s2
        unfold isTab at this
        rw [decide_eq_true c, Bool.true_and] at this
        rw [List.all_map]
        exact this
    · refine ifF (ec.trans (decide_eq_false c)) ?_
      have := k H (fun _ _ h => h)
      unfold isTab at this
      rw [decide_eq_false c, Bool.false_and] at this
      exact this

/-! ### end_of_call -/
abbrev sEc : Stmt := top 60
def NEc : List Str := ["calls", "place", "end"]
theorem scEc : FnScope NEc ["calls", "place"] (defScope sEc) := ⟨rfl, rfl, rfl, by decide +kernel, rfl, by decide +kernel, by decide +kernel⟩
/-- how many whole numbers a call has -/
def whNum : List Int := [1, 0, 0, 1, 1, 1, 1, 1, 1]
/-- whether a row follows -/
def hasRow : List Bool := [false, true, false, false, false, true, true, false, true]
/-- end_of_call: p the call's number, k its whole numbers; where a row follows: its length -/
def spEc (K : PySem.W.Frag) : Sp := fun vs H Q _ => ∃ (a : Addr) (ns : List Int) (i p : Nat) (k : Int) (b : Bool), vs = [.ref a, .int i] ∧ SqL K H a (ns.map V.int) ∧ ns.length ≤ 1000 ∧ ns[i]? = some (p : Int) ∧ whNum[p]? = some k ∧ hasRow[p]? = some b ∧
  (b = false → Q (.int (i + 1 + k)) H) ∧ (b = true → ∃ m : Int, ns[(i + 1 + k).toNat]? = some m ∧ -4294967296 ≤ m ∧ m ≤ 4294967296 ∧ Q (.int (i + 1 + k + (1 + m))) H)
theorem ok_ec {f t1 t2 : Addr} {fd : FuncData} (F : Fun K "end_of_call" "end_of_call" sEc f fd) (B : Bi mg) (g1 : mg "WHOLE_NUMBERS" = some (.ref t1)) (g2 : mg "HAS_ROW" = some (.ref t2))
    (k1 : ∀ H : Hp, SqT K H t1 (whNum.map V.int)) (k2 : ∀ H : Hp, SqT K H t2 (hasRow.map V.bl)) :
    FnOk P w K mg base CX0 1 f fd ["calls", "place"] (spEc K) := by
  refine F.ok scEc (fun vs H Q E h => ?_) (fun cdv A outer s H vs Q E hr h => ?_)
  · obtain ⟨a, ns, i, p, k, b, rfl, _⟩ := h
    rfl
  · have nd : NEc.Nodup := scEc.nd
    obtain ⟨a, ns, i, p, k, b, rfl, ha, hl, hi, hk, hb, q1, q2⟩ := h
    refine ⟨_, pss_cons (ps_set (i := 2) nd rfl (Or.inl rfl) (pe_op op_add (pe_op op_add (pv 1) pe_int) (pe_ix (r := rIxT K) ix_tup (pe_glob (v := .ref t1) rfl g1 rfl) (pe_ix (r := rIxL K) ix_list (pv 0) (pv 1) (fun _ _ => rfl)) (fun _ _ => rfl))))
      (pss_cons (ps_if (pt_val (pe_ix (r := rIxT K) ix_tup (pe_glob (v := .ref t2) rfl g2 rfl) (pe_ix (r := rIxL K) ix_list (pv 0) (pv 1) (fun _ _ => rfl)) (fun _ _ => rfl)))
        (pss_one (ps_aug (i := 2) nd rfl (Or.inl rfl) (pe_op op_add pe_int (pe_ix (r := rIxL K) ix_list (pv 0) (pv 2) (fun _ _ => rfl))) ip_add)) pss_nil)
      (pss_one (ps_ret (pv 2)))), ?_⟩
    have at0 : atI (ns.map V.int) (i : Int) = some (V.int (p : Int)) := atI_nat (by rw [List.getElem?_map, hi]; rfl)
    have at1 : atI (whNum.map V.int) (p : Int) = some (V.int k) := atI_nat (by rw [List.getElem?_map, hk]; rfl)
    have at2 : atI (hasRow.map V.bl) (p : Int) = some (V.bl b) := atI_nat (by rw [List.getElem?_map, hb]; rfl)
    refine ⟨_, rfl, _, _, rfl, rfl, _, rfl, _, rfl, a, _, _, _, rfl, rfl, ha, at0, t1, _, _, _, rfl, rfl, k1 _, at1, _, _, rfl, rfl, ?_⟩
    refine ⟨_, rfl, _, rfl, a, _, _, _, rfl, rfl, ha, at0, t2, _, _, _, rfl, rfl, k2 _, at2, b, rfl, ?_⟩
    cases b with
    | false =>
      refine ifF rfl ?_
      exact ⟨_, rfl, q1 rfl⟩
    | true =>
      refine ifT rfl ?_
      obtain ⟨m, hm, hm1, hm2, q⟩ := q2 rfl
      have h0 : 0 ≤ (i : Int) + 1 + k := by
        have : k ∈ whNum := List.mem_of_getElem? hk
        have : 0 ≤ k := (by decide : ∀ z ∈ whNum, 0 ≤ z) k this
        omega
      have at3 : atI (ns.map V.int) ((i : Int) + 1 + k) = some (V.int m) := by
        rw [show (i : Int) + 1 + k = (((i : Int) + 1 + k).toNat : Int) by omega]
        exact atI_nat (by rw [List.getElem?_map, hm]; rfl)
      refine ⟨_, rfl, _, rfl, _, rfl, a, _, _, _, rfl, rfl, ha, at3, _, _, rfl, rfl, _, _, rfl, rfl, ?_⟩
      exact ⟨_, rfl, q⟩
end LF
end
section
set_option maxRecDepth 100000
set_option maxHeartbeats 4000000
namespace LF
open PySem PySem.Spec PyProof.Rows L2

/-- a list is made longer by a tuple of any make -/
theorem meets_extT (p q : Addr) (xs ys : Array Value) (m k : Nat) (od : Option Addr) (sl : Array (Option Value)) (hL : ¬(!xs.isEmpty && Builtin.List.listTooLong (xs.size + ys.size)) = true) (h1 : xs.size ≤ sizeLine) (h2 : xs.size + ys.size ≤ sizeLine + 1) :
    Meets (Builtin.«list.extend» ⟨[.ref p, .ref q], []⟩) (fun _ R s => s.heap.get? p = some ⟨.type "list", none, .seq xs m, #[]⟩ ∧ s.heap.get? q = some ⟨.type "tuple", od, .seq ys k, sl⟩ ∧
      R (.ok (.ret Value.none)) { s with heap := s.heap.update p (Obj.mapSeq fun x => x ++ ys), toks := s.toks }) :=
  .of_wp fun prog w A R s h => by
    obtain ⟨hp, g, d, tk, os⟩ := s
    obtain ⟨hl, hb, h⟩ := h
    have f2 := PySem.AutoSeq1.sub_tuple_tuple
    have f3 := PySem.AutoSeq1.sub_list_list
    have f4 := PySem.AutoSeq1.sub_tuple_list
    have f5 := PySem.AutoSeq1.sub_list_tuple
    have hz : (xs ++ ys).size ≤ sizeLine + 1 := by
      rw [Array.size_append]
      exact h2
    wp_walk using (wpAny_updateSeq hl rfl (hz := h1) (_hz' := hz)), PySem.AutoSeq1.wpAny_loadPart' hl, PySem.AutoSeq1.wpAny_loadPart' hb
    exact ⟨_, rfl, h⟩
/-- xs.extend(t) -/
def rExtT (K : PySem.W.Frag) : V → List V → Hp → VK → Prop := fun x vs H Q => ∃ p q ys zs, x = .ref p ∧ vs = [.ref q] ∧ H p = some (.lst ys) ∧ SqT K H q zs ∧ ys.length + zs.length ≤ sizeLine ∧ Q .non (upd H p (.lst (ys ++ zs)))
theorem mt_extT {X : Cx} : MtM X "list.extend" (rExtT X.K) := by
  intro pins s σ H x vs v us Q I rx rv h
  obtain ⟨p, q, ys, zs, rfl, rfl, hp, hq, hz, k⟩ := h
  cases rx
  obtain ⟨u, rfl, ru⟩ := rv.one
  cases ru
  obtain ⟨z, its, n, r, hl, e⟩ := I.lstM hp
  obtain ⟨its2, r2, ⟨o, ho, hc, n2, hd⟩, z2⟩ := I.tuple hq
  obtain ⟨oc, od, dt, sl⟩ := o
  cases hc
  cases hd
  have l1 := r.length
  have l2 := r2.length
  have hs : its.toArray.size + its2.toArray.size ≤ sizeLine := by
    rw [List.size_toArray, List.size_toArray]
    omega
  have w : ¬ (!its.toArray.isEmpty && Builtin.List.listTooLong (its.toArray.size + its2.toArray.size)) = true := by
    rw [notLongL hs, Bool.and_false]
    exact Bool.false_ne_true
  refine call_meets F.slot_list_extend ⟨_, e, rfl⟩ F.entry_list_extend (F.args_list_extend_2 _ _)
    (meets_extT p q its.toArray its2.toArray n n2 od sl w (by omega) (by omega)) ⟨e, ho, ?_⟩
  refine ⟨.non, _, I.lset (its' := its ++ its2) hp e (by simp) (r.append r2) ?_, rfl, k⟩
  rw [List.length_append]
  omega
end LF
end
section
set_option maxRecDepth 100000
set_option maxHeartbeats 4000000
namespace LF
open PySem PySem.Spec PyProof.Rows L2
variable {P : Program} {w : World} {K : PySem.W.Frag} {mg : Str → Option Value} {base : Heap} {C z0 : Addr}
/-- what the top has written of the class Line -/
structure LTxt (K : PySem.W.Frag) (C : Addr) : Prop where
  cl : Cls K C
  nU : NoAttr K C "unknowns"
  nT : NoAttr K C "told"
  nG : NoAttr K C "tables"
theorem lkH {k : Str} {v : V} {r : List (Str × V)} : List.lookup k ((k, v) :: r) = some v := by
  have e : (k == k) = true := beq_self_eq_true k
  simp only [List.lookup, e]
theorem lkP {k g : Str} {v : V} {r : List (Str × V)} (h : (k == g) = false) : List.lookup k ((g, v) :: r) = List.lookup k r := by simp only [List.lookup, h]
theorem ptH {f : Str} {v x : V} {r : List (Str × V)} : putF f v ((f, x) :: r) = (f, v) :: r := if_pos rfl
theorem ptP {f g : Str} {v x : V} {r : List (Str × V)} (h : ¬ g = f) : putF f v ((g, x) :: r) = (g, x) :: putF f v r := if_neg h
/-- a line's fields -/
def lF (n : Int) (tl tb : Addr) : List (Str × V) := [("unknowns", .int n), ("told", .ref tl), ("tables", .ref tb)]
theorem lF_u (n : Int) (tl tb : Addr) : (lF n tl tb).lookup ("unknowns" : Str) = some (.int n) := lkH
theorem lF_t (n : Int) (tl tb : Addr) : (lF n tl tb).lookup ("told" : Str) = some (.ref tl) := (lkP (by decide +kernel)).trans lkH
theorem lF_g (n : Int) (tl tb : Addr) : (lF n tl tb).lookup ("tables" : Str) = some (.ref tb) := (lkP (by decide +kernel)).trans ((lkP (by decide +kernel)).trans lkH)
theorem lF_pu (n m : Int) (tl tb : Addr) : putF "unknowns" (.int m) (lF n tl tb) = lF m tl tb := ptH
theorem lF_pt (n : Int) (tl tb x : Addr) : putF "told" (.ref x) (lF n tl tb) = lF n x tb := (ptP (by decide +kernel)).trans (congrArg _ ptH)
theorem lF_pg (n : Int) (tl tb x : Addr) : putF "tables" (.ref x) (lF n tl tb) = lF n tl x := (ptP (by decide +kernel)).trans (congrArg _ ((ptP (by decide +kernel)).trans (congrArg _ ptH)))
theorem lF_new (n : Int) (tl tb : Addr) : putF "tables" (.ref tb) (putF "told" (.ref tl) (putF "unknowns" (.int n) [])) = lF n tl tb := by
  have e1 : putF "unknowns" (.int n) [] = [((Str.ofString "unknowns"), V.int n)] := rfl
  have e2 : putF "told" (.ref tl) [((Str.ofString "unknowns"), V.int n)] = [((Str.ofString "unknowns"), V.int n), ((Str.ofString "told"), .ref tl)] := (ptP (by decide +kernel)).trans rfl
  have e3 : putF "tables" (.ref tb) [((Str.ofString "unknowns"), V.int n), ((Str.ofString "told"), .ref tl)] = lF n tl tb := (ptP (by decide +kernel)).trans (congrArg _ ((ptP (by decide +kernel)).trans rfl))
  rw [e1, e2, e3]
/-- the line stands at a; its lists are not the one at z0 -/
def LineAt (C z0 : Addr) (H : Hp) (a : Addr) (s : Wp04.State) : Prop := ∃ (dx tl tb : Addr) (T G : List (Addr × List Int)), H a = some (.ins C dx (lF s.n tl tb)) ∧ H tl = some (.lst (refs T)) ∧ TL H T ∧ T.map (·.2) = s.gens ∧
  H tb = some (.lst (refs G)) ∧ TL H G ∧ G.map (·.2) = Wp04.group s.n s.gens ∧ LA.LSt s ∧ tl ≠ z0 ∧ tb ≠ z0 ∧ z0 ≠ a ∧ ∃ o, H z0 = some o
/-- all but the line is as it was -/
def Fra (a : Addr) (H H' : Hp) : Prop := ∀ b o, H b = some o → b ≠ a → H' b = some o
theorem Fra.of {a : Addr} {H H' : Hp} (s : Same H H') : Fra a H H' := fun b o h _ => s b o h
theorem Fra.upd {a : Addr} {H H' : Hp} {o : HO} (f : Fra a H H') : Fra a H (upd H' a o) := fun b o' h hb => by
  rw [upd_ne hb]
  exact f b o' h hb
theorem Fra.trans {a : Addr} {H H1 H2 : Hp} (f : Fra a H H1) (g : Fra a H1 H2) : Fra a H H2 := fun b o h hb => g b o (f b o h hb) hb
theorem LineAt.same {H H' : Hp} {a : Addr} {s : Wp04.State} (h : LineAt C z0 H a s) (k : Same H H') : LineAt C z0 H' a s := by
  obtain ⟨dx, tl, tb, T, G, h1, h2, h3, h4, h5, h6, h7, h8, n1, n2, n3, o, ho⟩ := h
  exact ⟨dx, tl, tb, T, G, k _ _ h1, k _ _ h2, h3.same k, h4, k _ _ h5, h6.same k, h7, h8, n1, n2, n3, o, k _ _ ho⟩
/-- what is at z0 may change -/
theorem LineAt.put {H : Hp} {a : Addr} {s : Wp04.State} {xs : List V} {o' : HO} (h : LineAt C z0 H a s) (hz : H z0 = some (.lst xs)) : LineAt C z0 (upd H z0 o') a s := by
  obtain ⟨dx, tl, tb, T, G, h1, h2, h3, h4, h5, h6, h7, h8, n1, n2, n3, o, ho⟩ := h
  have nt : ∀ L : List (Addr × List Int), TL H L → TL (upd H z0 o') L := fun L h p hp => by
    rw [upd_ne (ne_of (h p hp) hz (by intro z; cases z))]
    exact h p hp
  exact ⟨dx, tl, tb, T, G, by rw [upd_ne n3.symm]; exact h1, by rw [upd_ne n1]; exact h2, nt _ h3, h4, by rw [upd_ne n2]; exact h5, nt _ h6, h7, h8, n1, n2, n3, o', upd_same⟩
/-- a line just made -/
def LineNew (C : Addr) (H : Hp) (a : Addr) : Prop := ∃ dx tl tb p : Addr, H a = some (.ins C dx (lF 2 tl tb)) ∧ H tl = some (.lst []) ∧ H tb = some (.lst [.ref p]) ∧ H p = some (.tup ((Wp04.ident 2).map V.int))
theorem TL.fra {a : Addr} {H H' : Hp} {L : List (Addr × List Int)} (h : TL H L) (f : Fra a H H') {C dx : Addr} {fs : List (Str × V)} (ha : H a = some (.ins C dx fs)) : TL H' L := fun p hp => f _ _ (h p hp) (ne_of (h p hp) ha (by intro z; cases z))
/-- a line that begins anew -/
theorem LineAt.new {H : Hp} {a dx tl tb p : Addr} {n : Nat} (hn : n = 2 ∨ n = 3) (h1 : H a = some (.ins C dx (lF n tl tb))) (h2 : H tl = some (.lst [])) (h3 : H tb = some (.lst [.ref p])) (h4 : H p = some (.tup ((Wp04.ident n).map V.int))) (n1 : tl ≠ z0) (n2 : tb ≠ z0) (n3 : z0 ≠ a) (hz : ∃ o, H z0 = some o) : LineAt C z0 H a ⟨n, []⟩ := by
  refine ⟨dx, tl, tb, [], [(p, Wp04.ident n)], h1, h2, (fun q hq => nomatch hq), rfl, h3, fun q hq => ?_, (LA.group_nil hn).symm, LA.lst_new hn, n1, n2, n3, hz⟩
  rw [List.mem_singleton] at hq
  subst hq
  exact h4
/-- the three stores of a line that begins anew -/
theorem anew {H H4 : Hp} {p dx l q l2 : Addr} {o0 : HO} {f1 f2 f3 : List (Str × V)} {n : Nat} (hn : n = 2 ∨ n = 3) (hp : H p = some o0) (hl : upd H p (.ins C dx f1) l = none) (s4 : Same (upd (upd (upd H p (.ins C dx f1)) l (.lst [])) p (.ins C dx f2)) H4)
    (hq : H4 q = some (.tup ((Wp04.ident n).map V.int))) (hl2 : H4 l2 = none) (ef : f3 = lF n l l2) :
    ((∃ o, H z0 = some o) → z0 ≠ p → LineAt C z0 (upd (upd H4 l2 (.lst [.ref q])) p (.ins C dx f3)) p ⟨n, []⟩) ∧ (n = 2 → LineNew C (upd (upd H4 l2 (.lst [.ref q])) p (.ins C dx f3)) p) ∧ Fra p H (upd (upd H4 l2 (.lst [.ref q])) p (.ins C dx f3)) := by
  have lp : l ≠ p := by
    rintro rfl
    rw [upd_same] at hl
    cases hl
  have h4p : H4 p = some (.ins C dx f2) := s4 _ _ upd_same
  have h4l : H4 l = some (.lst []) := s4 _ _ (by rw [upd_ne lp, upd_same])
  have l2p : l2 ≠ p := by
    rintro rfl
    rw [h4p] at hl2
    cases hl2
  have ll2 : l ≠ l2 := by
    rintro rfl
    rw [h4l] at hl2
    cases hl2
  have qp : q ≠ p := ne_of hq h4p (by intro z; cases z)
  have ql2 : q ≠ l2 := by
    rintro rfl
    rw [hq] at hl2
    cases hl2
  have fr : Fra p H (upd (upd H4 l2 (.lst [.ref q])) p (.ins C dx f3)) ∧ ∀ b o, H b = some o → b ≠ p → b ≠ l ∧ b ≠ l2 := by
    have both : ∀ b o, H b = some o → b ≠ p → H4 b = some o ∧ b ≠ l ∧ b ≠ l2 := fun b o h hb => by
      have b1 : upd H p (.ins C dx f1) b = some o := by rw [upd_ne hb]; exact h
      have bl : b ≠ l := ne_of_none b1 hl
      have b4 : H4 b = some o := s4 _ _ (by rw [upd_ne hb, upd_ne bl]; exact b1)
      exact ⟨b4, bl, ne_of_none b4 hl2⟩
    refine ⟨fun b o h hb => ?_, fun b o h hb => (both b o h hb).2⟩
    obtain ⟨b4, _, bl2⟩ := both b o h hb
    rw [upd_ne hb, upd_ne bl2]
    exact b4
  have a1 : (upd (upd H4 l2 (.lst [.ref q])) p (.ins C dx f3)) p = some (.ins C dx (lF n l l2)) := by rw [upd_same, ef]
  have a2 : (upd (upd H4 l2 (.lst [.ref q])) p (.ins C dx f3)) l = some (.lst []) := by rw [upd_ne lp, upd_ne ll2]; exact h4l
  have a3 : (upd (upd H4 l2 (.lst [.ref q])) p (.ins C dx f3)) l2 = some (.lst [.ref q]) := by rw [upd_ne l2p, upd_same]
  have a4 : (upd (upd H4 l2 (.lst [.ref q])) p (.ins C dx f3)) q = some (.tup ((Wp04.ident n).map V.int)) := by rw [upd_ne qp, upd_ne ql2]; exact hq
  refine ⟨fun ⟨o, ho⟩ nz => LineAt.new hn a1 a2 a3 a4 (fr.2 _ _ ho nz).1.symm (fr.2 _ _ ho nz).2.symm nz ⟨o, fr.1 _ _ ho nz⟩, fun e => ?_, fr.1⟩
  subst e
  exact ⟨dx, l, l2, q, a1, a2, a3, a4⟩
abbrev sIn : Stmt := inClass (top 57) 0
def NIn : List Str := ["self"]
theorem scIn : FnScope NIn ["self"] (defScope sIn) := ⟨rfl, rfl, rfl, by decide +kernel, rfl, by decide +kernel, by decide +kernel⟩
/-- Line.__init__ -/
def spIn (C : Addr) : Sp := fun vs H Q _ => ∃ p dx : Addr, vs = [.ref p] ∧ H p = some (.ins C dx []) ∧ ∀ H' : Hp, LineNew C H' p → Fra p H H' → Q .non H'
theorem ok_in {f : Addr} {fd : FuncData} (F : Fun K "__init__" "Line.__init__" sIn f fd) (T : LTxt K C) {tk : Tok} (hU : mg "UNKNOWNS_AT_FIRST" = some (.int 2 tk)) (cN : Cal P w K mg base "nothing_done" 1 ["n"] spNd) :
    FnOk P w K mg base CX0 2 f fd ["self"] (spIn C) := by
  refine F.ok scIn (fun vs H Q E h => ?_) (fun cdv A outer s H vs Q E hr h => ?_)
  · obtain ⟨p, dx, rfl, _⟩ := h
    rfl
  · have nd : NIn.Nodup := scIn.nd
    obtain ⟨p, dx, rfl, hp, k⟩ := h
    refine ⟨_, pss_cons (ps_fld (pv 0) (pe_glob (v := .int 2) rfl hU ⟨_, rfl⟩) rfl)
      (pss_cons (ps_fld (pv 0) (pe_lst pa_nil) rfl)
      (pss_one (ps_fld (pv 0) (pe_lst (pa_cons (pe_call cN.ok hr (by rfl) cN.mgx cN.kp cN.b .nil pass0 (pa_cons (pe_glob (v := .int 2) rfl hU ⟨_, rfl⟩) pa_nil)) pa_nil)) rfl))), ?_⟩
    refine ⟨_, rfl, p, C, dx, _, rfl, hp, T.cl, T.nU, (by show 0 < 1000; decide), ?_⟩
    refine ⟨(by show 0 ≤ sizeLine; decide), fun l hl => ?_⟩
    have lp : l ≠ p := by
      rintro rfl
      rw [upd_same] at hl
      cases hl
    refine ⟨_, rfl, p, C, dx, _, rfl, (by rw [upd_ne lp.symm, upd_same]), T.cl, T.nT, (by show 1 < 1000; decide), ?_⟩
    refine ⟨2, rfl, .inl rfl, fun H4 q s4 nq hq => ⟨(by show 1 ≤ sizeLine; decide), fun l2 hl2 => ?_⟩⟩
    have h4p := s4 _ _ upd_same
    have l2p : l2 ≠ p := by
      rintro rfl
      rw [h4p] at hl2
      cases hl2
    refine ⟨_, rfl, p, C, dx, _, rfl, (by rw [upd_ne l2p.symm]; exact h4p), T.cl, T.nG, (by show 2 < 1000; decide), ?_⟩
    obtain ⟨_, a1, a2⟩ := anew (C := C) (z0 := p) (n := 2) (.inl rfl) hp hl s4 hq hl2 (lF_new 2 l l2)
    exact k _ (a1 rfl) a2
abbrev sBe : Stmt := inClass (top 57) 1
def NBe : List Str := ["self", "n"]
theorem scBe : FnScope NBe ["self", "n"] (defScope sBe) := ⟨rfl, rfl, rfl, by decide +kernel, rfl, by decide +kernel, by decide +kernel⟩
/-- what a method of the line promises: the call's answer, the line as it is then, all else as it was -/
def Ans (C z0 : Addr) (c : Wp04.Call) (a : Addr) (s : Wp04.State) (H : Hp) (Q : VK) : Prop := ∀ (H' : Hp) (p : Addr), LineAt C z0 H' a (Wp04.step s c).1 → Fra a H H' → H p = none → H' p = some (.lst ((Wp04.step s c).2.map V.int)) → Q (.ref p) H'
/-- an answer of one number, the line as it was -/
theorem ans_one {H H' : Hp} {a p : Addr} {s : Wp04.State} {c : Wp04.Call} {z : Int} {Q : VK} (A : Ans C z0 c a s H Q) (L : LineAt C z0 H a s) (e : Wp04.step s c = (s, [z])) (k : Same H H') (hp : H' p = none) : Q (.ref p) (upd H' p (.lst [.int z])) := by
  refine A _ p ?_ ?_ (k.free hp) ?_
  · rw [e]
    exact L.same (k.trans (same_upd hp))
  · exact .of (k.trans (same_upd hp))
  · rw [e, upd_same]
    rfl
/-- begin -/
def spBe (C : Addr) : Sp := fun vs H Q _ => ∃ (z0 a : Addr) (s : Wp04.State) (z : Int), vs = [.ref a, .int z] ∧ LineAt C z0 H a s ∧ Ans C z0 (.begin_ z) a s H Q
/-- the greatest degrees -/
def kvDeg : List (Int × Int) := [(2, 8), (3, 5)]
theorem ok_be {f d : Addr} {fd : FuncData} (F : Fun K "begin" "Line.begin" sBe f fd) (T : LTxt K C) (hD : mg "GREATEST_DEGREES" = some (.ref d)) (D : KDi K d kvDeg) {tk : Tok} (hN : mg "NOT_ALLOWED" = some (.int (-1) tk)) (cN : Cal P w K mg base "nothing_done" 1 ["n"] spNd) :
    FnOk P w K mg base CX0 2 f fd ["self", "n"] (spBe C) := by
  refine F.ok scBe (fun vs H Q E h => ?_) (fun cdv A outer s H vs Q E hr h => ?_)
  · obtain ⟨z0, a, s, z, rfl, _⟩ := h
    rfl
  · have nd : NBe.Nodup := scBe.nd
    obtain ⟨z0, a, st, z, rfl, L, k⟩ := h
    refine ⟨_, pss_cons (ps_if (pt_cmpR (op_notInI D) (pv 1) (pe_glob (v := .ref d) rfl hD rfl) rfl) (pss_one (ps_ret (pe_lst (pa_cons (pe_glob (v := .int (-1)) rfl hN ⟨_, rfl⟩) pa_nil)))) pss_nil)
      (pss_cons (ps_fld (pv 0) (pv 1) rfl)
      (pss_cons (ps_fld (pv 0) (pe_lst pa_nil) rfl)
      (pss_cons (ps_fld (pv 0) (pe_lst (pa_cons (pe_call cN.ok hr (by rfl) cN.mgx cN.kp cN.b .nil pass0 (pa_cons (pv 1) pa_nil)) pa_nil)) rfl)
      (pss_one (ps_ret (pe_lst (pa_cons (pv 1) pa_nil))))))), ?_⟩
    refine ⟨_, rfl, z, rfl, rfl, _, rfl, ?_⟩
    by_cases c : z = 2 ∨ z = 3
    · refine ifF (by rcases c with rfl | rfl <;> decide) ?_
      obtain ⟨n, hn, rfl⟩ : ∃ n : Nat, (n = 2 ∨ n = 3) ∧ z = (n : Int) := by
        rcases c with rfl | rfl
        · exact ⟨2, .inl rfl, rfl⟩
        · exact ⟨3, .inr rfl, rfl⟩
      obtain ⟨dx, tl, tb, TT, G, hp, _, _, _, _, _, _, _, _, _, nz, hz⟩ := L
      refine ⟨_, rfl, _, rfl, a, C, dx, _, rfl, hp, T.cl, T.nU, (by show 3 < 1000; decide), ?_⟩
      refine ⟨(by show 0 ≤ sizeLine; decide), fun l hl => ?_⟩
      have lp : l ≠ a := by
        rintro rfl
        rw [upd_same] at hl
        cases hl
      refine ⟨_, rfl, a, C, dx, _, rfl, (by rw [upd_ne lp.symm, upd_same]), T.cl, T.nT, (by show 3 < 1000; decide), ?_⟩
      refine ⟨_, rfl, n, rfl, hn, fun H4 q s4 nq hq => ⟨(by show 1 ≤ sizeLine; decide), fun l2 hl2 => ?_⟩⟩
      have h4p := s4 _ _ upd_same
      have l2p : l2 ≠ a := by
        rintro rfl
        rw [h4p] at hl2
        cases hl2
      refine ⟨_, rfl, a, C, dx, _, rfl, (by rw [upd_ne l2p.symm]; exact h4p), T.cl, T.nG, (by show 3 < 1000; decide), ?_⟩
      have ef : putF "tables" (.ref l2) (putF "told" (.ref l) (putF "unknowns" (.int n) (lF st.n tl tb))) = lF n l l2 := by rw [lF_pu, lF_pt, lF_pg]
      obtain ⟨a1, _, a2⟩ := anew (C := C) (z0 := z0) hn hp hl s4 hq hl2 ef
      refine ⟨_, rfl, (by show 1 ≤ sizeLine; decide), fun r hr' => ?_⟩
      have e := LA.step_begin (s := st) hn
      refine k _ r ?_ ?_ ?_ ?_
      · rw [e]
        exact (a1 hz nz).same (same_upd hr')
      · exact a2.trans (.of (same_upd hr'))
      · cases q0 : H r with
        | none => rfl
        | some o =>
          exfalso
          by_cases cr : r = a
          · rw [cr, upd_same] at hr'
            cases hr'
          · rw [a2 _ _ q0 cr] at hr'
            cases hr'
      · rw [e, upd_same]
        rfl
    · have e0 : (!(kvDeg.lookup z).isSome) = true := by
        have c2 : (z == 2) = false := by simpa using fun e => c (.inl e)
        have c3 : (z == 3) = false := by simpa using fun e => c (.inr e)
        simp only [kvDeg, List.lookup, c2, c3]
        rfl
      refine ifT e0 ?_
      refine ⟨(by show 1 ≤ sizeLine; decide), fun r hr' => ?_⟩
      exact ans_one k L (LA.step_beginN c) (fun _ _ h => h) hr'
end LF
end
section
set_option maxRecDepth 100000
set_option maxHeartbeats 4000000
namespace LF
open PySem PySem.Spec PyProof.Rows L2
variable {P : Program} {w : World} {K : PySem.W.Frag} {mg : Str → Option Value} {base : Heap}
abbrev sTp : Stmt := top 7
def NTp : List Str := ["n", "table", "d", "traces", "power", "i"]
theorem scTp : FnScope NTp ["n", "table", "d"] (defScope sTp) := ⟨rfl, rfl, rfl, by decide +kernel, rfl, by decide +kernel, by decide +kernel⟩
/-- the sums on the diagonals of a table's powers -/
def pws (n : Nat) (t : List Int) (d : Nat) : List Int := (List.range d).map fun k => Wp04.trace n (Wp04.powerOf n t (k + 1))
theorem pws_succ (n : Nat) (t : List Int) (d : Nat) : pws n t (d + 1) = pws n t d ++ [Wp04.trace n (Wp04.powerOf n t (d + 1))] := by
  unfold pws
  rw [List.range_succ, List.map_append]
  rfl
theorem trace_sum (n : Nat) (M : List Int) : Wp04.trace n M = ((List.range n).map fun i => M.getD (i * n + i) 0).sum := by
  unfold Wp04.trace
  rw [LA.isum_eq]
  rfl
/-- traces_of_powers -/
def spTp : Sp := fun vs H Q _ => ∃ (n : Nat) (a : Addr) (t : List Int) (d : Nat), vs = [.int n, .ref a, .int d] ∧ (n = 2 ∨ n = 3) ∧ d ≤ 8 ∧ H a = some (.tup (t.map V.int)) ∧ t.length = n * n ∧ (∀ k, Bd 1000 (Wp04.powerOf n t k)) ∧
  ∀ (H' : Hp) (p : Addr), Same H H' → H p = none → H' p = some (.lst ((pws n t d).map V.int)) → Q (.ref p) H'
theorem ok_tp {f : Addr} {fd : FuncData} (F : Fun K "traces_of_powers" "traces_of_powers" sTp f fd) (B : Bi mg) (cN : Cal P w K mg base "nothing_done" 1 ["n"] spNd) (cM : Cal P w K mg base "made" 1 ["n", "a", "b"] spMd) :
    FnOk P w K mg base CX0 2 f fd ["n", "table", "d"] spTp := by
  refine F.ok scTp (fun vs H Q E h => ?_) (fun cdv A outer s H vs Q E hr h => ?_)
  · obtain ⟨n, a, t, d, rfl, _⟩ := h
    rfl
  · have nd : NTp.Nodup := scTp.nd
    obtain ⟨n, a, t, d, rfl, hn, hd, ha, lt, bt, k⟩ := h
    refine ⟨_, pss_cons (ps_set (i := 3) nd rfl (Or.inl rfl) (pe_lst pa_nil))
      (pss_cons (ps_set (i := 4) nd rfl (Or.inr rfl) (pe_call cN.ok hr (by rfl) cN.mgx cN.kp cN.b .nil pass0 (pa_cons (pv 0) pa_nil)))
      (pss_cons (ps_while PassesOwn.never (pt_cmpR op_lt (pe_callB call_len_seq (by rfl) B.len PySem.boot_len (pa_cons (pv 3) pa_nil)) (pv 2) (nomark _))
        (pss_cons (ps_set (i := 4) nd rfl (Or.inr rfl) (pe_call cM.ok hr (by rfl) cM.mgx cM.kp cM.b .nil pass0 (pa_cons (pv 0) (pa_cons (pv 4) (pa_cons (pv 1) pa_nil)))))
        (pss_one (ps_expr (pe_bm PySem.F.plainAttrs_list PySem.F.slot_list_append PySem.F.type_list_append mt_append (pv 3)
          (pa_cons (pe_callB (cr_sum rfl) (by rfl) B.sum (by decide +kernel) (pa_cons
            (pe_lc (own := [("i", 5)]) (g := gName 5) (tt := tYes) rfl nd (pi_range1 (by rfl) B.range (pa_cons (pv 0) pa_nil))
              (blkOk_by (N := NTp) (sc := defScope sTp) (by decide +kernel)) (fun _ _ _ _ _ => pg_name (i := 5) nd rfl (Or.inl rfl)) (fun _ _ _ _ _ => pts_nil)
              (fun _ _ _ _ _ => pe_ix (r := rIxT K) ix_tup (pv 4) (pe_op op_add (pe_op op_mul (pv 5) (pv 0)) (pv 5)) (fun _ _ => rfl))) pa_nil)) pa_nil))))))
      (pss_one (ps_ret (pv 3))))), ?_⟩
    refine ⟨by decide, fun l hl => ?_⟩
    refine ⟨_, rfl, n, rfl, hn, fun H1 q s1 hq h1 => ?_⟩
    have s0 : Same H H1 := (same_upd hl).trans s1
    have hl1 : H1 l = some (.lst []) := s1 _ _ upd_same
    refine ⟨fun m σ H' => ∃ (j : Nat) (q : Addr), m = d - j ∧ σ = [some (.int n), some (.ref a), some (.int d), some (.ref l), some (.ref q), none] ∧ Same H H' ∧ H' l = some (.lst ((pws n t j).map V.int)) ∧ H' q = some (.tup ((Wp04.powerOf n t j).map V.int)) ∧ j ≤ d,
      ⟨d, 0, q, rfl, rfl, s0, hl1, h1, Nat.zero_le _⟩, ?_⟩
    rintro m σ H' ⟨j, q, rfl, rfl, s2, e1, e2, hj⟩
    refine ⟨_, rfl, l, _, rfl, .inl (SqL.of e1), _, rfl, _, _, rfl, rfl, _, rfl, ?_⟩
    have elen : ((pws n t j).map V.int).length = j := by simp [pws]
    rw [elen]
    by_cases c : j < d
    · refine ifT (decide_eq_true (by omega)) ?_
      refine ⟨fun σ' H2 => ∃ q : Addr, σ' = [some (.int n), some (.ref a), some (.int d), some (.ref l), some (.ref q), none] ∧ Same H H2 ∧ H2 l = some (.lst ((pws n t (j + 1)).map V.int)) ∧ H2 q = some (.tup ((Wp04.powerOf n t (j + 1)).map V.int)), ?_, ?_⟩
      · rintro σ' H2 ⟨q, rfl, s3, e3, e4⟩
        exact ⟨d - (j + 1), by omega, j + 1, q, rfl, rfl, s3, e3, e4, c⟩
      · have bt1 : Bd 1000 t := by have := bt 1; rwa [show Wp04.powerOf n t 1 = t from LA.id_then hn lt] at this
        refine ⟨_, rfl, _, rfl, _, rfl, n, q, a, _, t, rfl, hn, e2, s2 _ _ ha, LA.len_powerOf n t j, lt, bt j, bt1, fun H2 q2 s3 hq2 h3 => ?_⟩
        have s4 : Same H H2 := s2.trans s3
        refine ⟨_, rfl, .inl ⟨rfl, _, SqL.of (s3 _ _ e1)⟩, _, rfl, (n : Int), rfl, by omega, by omega, ?_⟩
        rw [Int.toNat_natCast]
        intro D hD
        refine lc_range (lo := 0) (fun i H3 => Same H2 H3 ∧ H3 D = some (.lst (((List.range i).map fun i => (Wp04.powerOf n t (j + 1)).getD (i * n + i) 0).map V.int))) ⟨same_upd hD, by rw [upd_same]; rfl⟩ ?_ ?_
        · rintro i H3 hi ⟨s5, h5⟩
          have hix : i * n + i < (Wp04.powerOf n t (j + 1)).length := by
            rw [LA.len_powerOf]
            rcases hn with rfl | rfl <;> omega
          refine ⟨rfl, ?_⟩
          refine ⟨_, rfl, _, rfl, _, rfl, _, _, rfl, rfl, .inl ⟨by omega, by omega⟩, _, rfl, _, _, rfl, rfl, q2, _, _, _, rfl, rfl, SqT.of (s5 _ _ h3), at_of (j := i * n + i) (by simp [Int.zero_add]) (getD_map hix), ?_⟩
          refine ⟨_, h5, small1000 (by simp; omega), fun b o hb => ?_, ?_⟩
          · rw [upd_ne (ne_of_none hb hD)]
            exact s5 b o hb
          · rw [upd_same, List.range_succ, List.map_append, List.map_append]
            rfl
        · rintro H3 ⟨s5, h5⟩
          refine ⟨D, _, rfl, SqL.of h5, ?_⟩
          refine ⟨l, _, _, rfl, rfl, s5 _ _ (s3 _ _ e1), small1000 (by rw [elen]; omega), ?_⟩
          refine ⟨q2, rfl, fun b o hb => ?_, ?_, ?_⟩
          · rw [upd_ne (ne_of_none hb hl)]
            exact s5 _ _ (s4 b o hb)
          · rw [upd_same, pws_succ, List.map_append, trace_sum]
            rfl
          · have hql : q2 ≠ l := fun z => by rw [z] at h3; rw [s3 _ _ e1] at h3; cases h3
            rw [upd_ne hql]
            exact s5 _ _ h3
    · refine ifF (decide_eq_false (by omega)) ?_
      have : j = d := by omega
      subst this
      exact ⟨_, rfl, k H' l s2 hl e1⟩
end LF
end
section
set_option maxRecDepth 100000
set_option maxHeartbeats 4000000
namespace LF
open PySem PySem.Spec PyProof.Rows L2
variable {P : Program} {w : World} {K : PySem.W.Frag} {mg : Str → Option Value} {base : Heap}
theorem mul_lt {a b : Int} {m k : Nat} (ha : a.natAbs < 2 ^ m) (hb : b.natAbs < 2 ^ k) : (a * b).natAbs < 2 ^ (m + k) := wide_lt ha hb
theorem add_lt {a b : Int} {m : Nat} (ha : a.natAbs < 2 ^ m) (hb : b.natAbs < 2 ^ m) : (a + b).natAbs < 2 ^ (m + 1) := by
  rw [Nat.pow_succ]
  omega
theorem lt_up {a : Int} {m k : Nat} (ha : a.natAbs < 2 ^ m) (h : m ≤ k) : a.natAbs < 2 ^ k := Nat.lt_of_lt_of_le ha (Nat.pow_le_pow_right (by decide) h)
theorem neg_lt {a : Int} {m : Nat} (ha : a.natAbs < 2 ^ m) : (-a).natAbs < 2 ^ m := by rw [Int.natAbs_neg]; exact ha
theorem sub_lt {a b : Int} {m : Nat} (ha : a.natAbs < 2 ^ m) (hb : b.natAbs < 2 ^ m) : (a - b).natAbs < 2 ^ (m + 1) := by
  rw [Int.sub_eq_add_neg]
  exact add_lt ha (neg_lt hb)
theorem T_lt {e1 m2 e3 : Int} (h1 : e1.natAbs < 2 ^ 4000) (h2 : m2.natAbs < 2 ^ 4000) (h3 : e3.natAbs < 2 ^ 4000) : ∀ d, (LA.gT LA.OZ e1 m2 e3 d).1.natAbs < 2 ^ (4002 * d + 1) ∧ (LA.gT LA.OZ e1 m2 e3 d).2.1.natAbs < 2 ^ (4002 * d + 1) ∧ (LA.gT LA.OZ e1 m2 e3 d).2.2.natAbs < 2 ^ (4002 * d + 1)
  | 0 => by simp [LA.gT, LA.OZ]
  | d + 1 => by
    obtain ⟨a, b, c⟩ := T_lt h1 h2 h3 d
    have x := mul_lt h1 a
    have y := mul_lt h2 b
    have z := mul_lt h3 c
    have yz := add_lt y z
    have xyz := add_lt (lt_up x (Nat.le_succ _)) yz
    refine ⟨lt_up xyz (by omega), lt_up a (by omega), lt_up b (by omega)⟩
theorem Tt_lt {n : Nat} {t : List Int} (h : Bd 1000 t) (d : Nat) (hd : d ≤ 8) : (LA.Tt n t d).natAbs < 2 ^ 40000 := by
  have g := fun i => h.at (by decide) i
  have gg := fun i j => mul_lt (g i) (g j)
  have e1 : (LA.E1 n t).natAbs < 2 ^ 4000 := by
    unfold LA.E1
    split
    · exact lt_up (add_lt (g 0) (g 3)) (by decide)
    · exact lt_up (add_lt (add_lt (g 0) (g 4)) (lt_up (g 8) (by decide : 1000 ≤ 1001))) (by decide)
  have e2 : (LA.M2 n t).natAbs < 2 ^ 4000 := by
    unfold LA.M2
    split
    · exact lt_up (sub_lt (gg 1 2) (gg 0 3)) (by decide)
    · exact lt_up (sub_lt (add_lt (add_lt (gg 1 3) (gg 2 6)) (lt_up (gg 5 7) (by decide : 1000 + 1000 ≤ 1000 + 1000 + 1))) (add_lt (add_lt (gg 0 4) (gg 0 8)) (lt_up (gg 4 8) (by decide : 1000 + 1000 ≤ 1000 + 1000 + 1)))) (by decide)
  have e3 : (LA.E3 n t).natAbs < 2 ^ 4000 := by
    unfold LA.E3
    split
    · decide +kernel
    · have s := fun i j k l => sub_lt (gg i j) (gg k l)
      have m := fun x i j k l => mul_lt (g x) (s i j k l)
      exact lt_up (add_lt (sub_lt (m 0 4 8 5 7) (m 1 3 8 5 6)) (lt_up (m 2 3 7 4 6) (by decide : 1000 + (1000 + 1000 + 1) ≤ 1000 + (1000 + 1000 + 1) + 1))) (by decide)
  exact lt_up (T_lt e1 e2 e3 d).1 (by omega)
theorem trace_lt {n : Nat} (hn : n = 2 ∨ n = 3) {M : List Int} (h : Bd 1000 M) : (Wp04.trace n M).natAbs < 2 ^ 1002 := by
  rw [trace_sum]
  have g := fun i => h.at (by decide) i
  rcases hn with rfl | rfl
  · simp only [List.range_succ, List.range_zero, List.nil_append, List.cons_append, List.map_cons, List.map_nil, List.sum_cons, List.sum_nil]
    have a := g (0 * 2 + 0)
    have b := g (1 * 2 + 1)
    have : (2 : Nat) ^ 1002 = 4 * 2 ^ 1000 := by rw [show 1002 = 1000 + 2 from rfl, Nat.pow_add]; omega
    omega
  · simp only [List.range_succ, List.range_zero, List.nil_append, List.cons_append, List.map_cons, List.map_nil, List.sum_cons, List.sum_nil]
    have a := g (0 * 3 + 0)
    have b := g (1 * 3 + 1)
    have c := g (2 * 3 + 2)
    have : (2 : Nat) ^ 1002 = 4 * 2 ^ 1000 := by rw [show 1002 = 1000 + 2 from rfl, Nat.pow_add]; omega
    omega
abbrev sTd : Stmt := top 8
def NTd : List Str := ["n", "table", "d", "powers", "traces", "degree", "total", "k"]
theorem scTd : FnScope NTd ["n", "table", "d"] (defScope sTd) := ⟨rfl, rfl, rfl, by decide +kernel, rfl, by decide +kernel, by decide +kernel⟩
def tts (n : Nat) (t : List Int) (d : Nat) : List Int := (List.range (d + 1)).map (LA.Tt n t)
theorem tts_succ (n : Nat) (t : List Int) (d : Nat) : tts n t (d + 1) = tts n t d ++ [LA.Tt n t (d + 1)] := by
  unfold tts
  rw [List.range_succ (n := d + 1), List.map_append]
  rfl
theorem tts_at {n : Nat} {t : List Int} {d k : Nat} (h : k ≤ d) : (tts n t d).getD k 0 = LA.Tt n t k := by
  simp [tts, List.getD_eq_getElem?_getD, show k < d + 1 by omega]
theorem pws_at {n : Nat} {t : List Int} {d k : Nat} (h : k < d) : (pws n t d).getD k 0 = Wp04.trace n (Wp04.powerOf n t (k + 1)) := by
  simp [pws, List.getD_eq_getElem?_getD, h]
/-- traces_by_degree -/
def spTd : Sp := fun vs H Q _ => ∃ (n : Nat) (a : Addr) (t : List Int) (d : Nat), vs = [.int n, .ref a, .int d] ∧ (n = 2 ∨ n = 3) ∧ d ≤ 8 ∧ H a = some (.tup (t.map V.int)) ∧ t.length = n * n ∧ (∀ k, Bd 1000 (Wp04.powerOf n t k)) ∧
  ∀ (H' : Hp) (p : Addr), Same H H' → H p = none → H' p = some (.lst ((tts n t d).map V.int)) → Q (.ref p) H'
theorem ok_td {f : Addr} {fd : FuncData} (F : Fun K "traces_by_degree" "traces_by_degree" sTd f fd) (B : Bi mg) (cT : Cal P w K mg base "traces_of_powers" 2 ["n", "table", "d"] spTp) :
    FnOk P w K mg base CX0 3 f fd ["n", "table", "d"] spTd := by
  refine F.ok scTd (fun vs H Q E h => ?_) (fun cdv A outer s H vs Q E hr h => ?_)
  · obtain ⟨n, a, t, d, rfl, _⟩ := h
    rfl
  · have nd : NTd.Nodup := scTd.nd
    obtain ⟨n, a, t, d, rfl, hn, hd, ha, lt, bt, k⟩ := h
    have bt1 : Bd 1000 t := by have := bt 1; rwa [show Wp04.powerOf n t 1 = t from LA.id_then hn lt] at this
    refine ⟨_, pss_cons (ps_set (i := 3) nd rfl (Or.inr rfl) (pe_call cT.ok hr (by rfl) cT.mgx cT.kp cT.b .nil pass0 (pa_cons (pv 0) (pa_cons (pv 1) (pa_cons (pv 2) pa_nil)))))
      (pss_cons (ps_set (i := 4) nd rfl (Or.inr rfl) (pe_lst (pa_cons pe_int pa_nil)))
      (pss_cons (ps_for PassesOwn.never rfl (pi_range2 (by rfl) B.range (pa_cons pe_int (pa_cons (pe_op op_add (pv 2) pe_int) pa_nil))) (pg_name (i := 5) nd rfl (Or.inr rfl))
        (pss_cons (ps_set (i := 6) nd rfl (Or.inl rfl) (pe_callB (cr_sum rfl) (by rfl) B.sum (by decide +kernel) (pa_cons
            (pe_lc (own := [("k", 7)]) (g := gName 7) (tt := tYes) rfl nd (pi_range2 (by rfl) B.range (pa_cons pe_int (pa_cons (pe_op op_add (pv 5) pe_int) pa_nil)))
              (blkOk_by (N := NTd) (sc := defScope sTd) (by decide +kernel)) (fun _ _ _ _ _ => pg_name (i := 7) nd rfl (Or.inl rfl)) (fun _ _ _ _ _ => pts_nil)
              (fun _ _ _ _ _ => pe_op op_mulW (pe_ix (r := rIxL K) ix_list (pv 3) (pe_op op_sub (pv 7) pe_int) (fun _ _ => rfl)) (pe_ix (r := rIxL K) ix_list (pv 4) (pe_op op_sub (pv 5) (pv 7)) (fun _ _ => rfl)))) pa_nil)))
        (pss_one (ps_expr (pe_bm PySem.F.plainAttrs_list PySem.F.slot_list_append PySem.F.type_list_append mt_append (pv 4) (pa_cons (pe_op op_fdiv (pv 6) (pv 5)) pa_nil))))))
      (pss_one (ps_ret (pv 4))))), ?_⟩
    refine ⟨_, rfl, _, rfl, _, rfl, n, a, t, d, rfl, hn, hd, ha, lt, bt, fun H1 q s1 hq h1 => ?_⟩
    refine ⟨show 1 ≤ sizeLine by decide, fun l hl => ?_⟩
    have hlH : H l = none := s1.free hl
    refine ⟨_, rfl, _, _, rfl, rfl, (1 : Int), (d : Int) + 1, rfl, by omega, ?_⟩
    rw [show ((d : Int) + 1 - 1).toNat = d by omega]
    refine for_range (lo := 1) (n := d) (fun i σ H' => ∃ va vb, σ = [some (.int n), some (.ref a), some (.int d), some (.ref q), some (.ref l), va, vb, none] ∧ Same H H' ∧ H' q = some (.lst ((pws n t d).map V.int)) ∧ H' l = some (.lst ((tts n t i).map V.int)))
      ⟨none, none, rfl, s1.trans (same_upd hl), by rw [upd_ne (ne_of_none h1 hl)]; exact h1, by rw [upd_same]; rfl⟩ ?_ ?_
    · rintro i σ H' hi ⟨va, vb, rfl, s2, e1, e2⟩
      refine ⟨_, rfl, _, _, rfl, rfl, (1 : Int), (1 : Int) + i + 1, rfl, by omega, ?_⟩
      rw [show ((1 : Int) + i + 1 - 1).toNat = i + 1 by omega]
      intro D hD
      refine lc_range (lo := 1) (fun m H2 => Same H' H2 ∧ H2 D = some (.lst (((List.range m).map fun k => Wp04.trace n (Wp04.powerOf n t (k + 1)) * LA.Tt n t (i - k)).map V.int))) ⟨same_upd hD, by rw [upd_same]; rfl⟩ ?_ ?_
      · rintro m H2 hm ⟨s3, h3⟩
        refine ⟨rfl, ?_⟩
        refine ⟨_, rfl, _, rfl, _, _, rfl, rfl, q, _, _, _, rfl, rfl, SqL.of (s3 _ _ e1), at_of (j := m) (by omega) (getD_map (by simp [pws]; omega)), ?_⟩
        refine ⟨_, rfl, _, rfl, _, rfl, _, _, rfl, rfl, l, _, _, _, rfl, rfl, SqL.of (s3 _ _ e2), at_of (j := i - m) (by omega) (getD_map (by simp [tts]; omega)), ?_⟩
        rw [pws_at (by omega), tts_at (by omega)]
        refine ⟨_, _, rfl, rfl, wide_mul (trace_lt hn (bt (m + 1))) (Tt_lt bt1 (i - m) (by omega)) (by decide) (by decide) (by decide), ?_⟩
        refine ⟨_, h3, small1000 (by simp; omega), fun b o hb => ?_, ?_⟩
        · rw [upd_ne (ne_of_none hb hD)]
          exact s3 b o hb
        · rw [upd_same, List.range_succ, List.map_append, List.map_append]
          rfl
      · rintro H2 ⟨s3, h3⟩
        refine ⟨D, _, rfl, SqL.of h3, ?_⟩
        rw [LA.newton hn lt i (by omega)]
        refine ⟨_, rfl, .inl ⟨rfl, _, SqL.of (s3 _ _ e2)⟩, _, rfl, _, rfl, _, _, rfl, rfl, ⟨by omega, by omega⟩, ?_⟩
        dsimp only
        rw [show ((1 : Int) + i) = ((i + 1 : Nat) : Int) by omega, Int.mul_ediv_cancel_left _ (by omega)]
        refine ⟨l, _, _, rfl, rfl, s3 _ _ e2, small1000 (by simp [tts]; omega), ?_⟩
        refine ⟨some (.int ((i + 1 : Nat) : Int)), some (.int (((i + 1 : Nat) : Int) * LA.Tt n t (i + 1))), rfl, fun b o hb => ?_, ?_, ?_⟩
        · rw [upd_ne (ne_of_none hb hlH)]
          exact s3 _ _ (s2 b o hb)
        · have hql : q ≠ l := fun z => by
            rw [z] at h1; rw [h1] at hl; cases hl
          rw [upd_ne hql]
          exact s3 _ _ e1
        · rw [upd_same, tts_succ, List.map_append]
          rfl
    · rintro σ H' ⟨va, vb, rfl, s2, e1, e2⟩
      exact ⟨_, rfl, k H' l s2 hlH e2⟩
end LF
end
section
set_option maxRecDepth 100000
set_option maxHeartbeats 4000000
namespace LF
open PySem PySem.Spec PyProof.Rows L2
variable {P : Program} {w : World} {K : PySem.W.Frag} {mg : Str → Option Value} {base : Heap}
abbrev sCs : Stmt := top 9
def NCs : List Str := ["n", "group", "d", "totals", "table", "traces", "degree", "total"]
theorem scCs : FnScope NCs ["n", "group", "d"] (defScope sCs) := ⟨rfl, rfl, rfl, by decide +kernel, rfl, by decide +kernel, by decide +kernel⟩
/-- the sums so far, degree by degree -/
def tot (n : Nat) (G : List (Addr × List Int)) (d : Nat) : List Int := (List.range (d + 1)).map fun e => (G.map fun p => LA.Tt n p.2 e).sum
theorem tot_nil (n d : Nat) : tot n [] d = List.replicate (d + 1) 0 := by
  unfold tot
  simp only [List.map_nil, List.sum_nil]
  rw [List.map_const', List.length_range]
theorem tot_at {n : Nat} {G : List (Addr × List Int)} {d e : Nat} (h : e ≤ d) : (tot n G d).getD e 0 = (G.map fun p => LA.Tt n p.2 e).sum := by
  simp [tot, List.getD_eq_getElem?_getD, show e < d + 1 by omega]
/-- counts_that_stay -/
def spCs : Sp := fun vs H Q _ => ∃ (n : Nat) (g : Addr) (G : List (Addr × List Int)) (d : Nat) (c : Nat → Int), vs = [.int n, .ref g, .int d] ∧ (n = 2 ∨ n = 3) ∧ d ≤ 8 ∧ H g = some (.lst (refs G)) ∧ TL H G ∧
  (∀ p ∈ G, p.2.length = n * n ∧ ∀ k, Bd 1000 (Wp04.powerOf n p.2 k)) ∧ 1 ≤ G.length ∧ G.length ≤ 1000 ∧ (∀ e, e ≤ d → (G.map fun p => LA.Tt n p.2 e).sum = (G.length : Int) * c e) ∧
  ∀ (H' : Hp) (p : Addr), Same H H' → H p = none → H' p = some (.lst (((List.range (d + 1)).map c).map V.int)) → Q (.ref p) H'
theorem ok_cs {f : Addr} {fd : FuncData} (F : Fun K "counts_that_stay" "counts_that_stay" sCs f fd) (B : Bi mg) (cT : Cal P w K mg base "traces_by_degree" 3 ["n", "table", "d"] spTd) :
    FnOk P w K mg base CX0 4 f fd ["n", "group", "d"] spCs := by
  refine F.ok scCs (fun vs H Q E h => ?_) (fun cdv A outer s H vs Q E hr h => ?_)
  · obtain ⟨n, g, G, d, c, rfl, _⟩ := h
    rfl
  · have nd : NCs.Nodup := scCs.nd
    obtain ⟨n, g, G, d, c, rfl, hn, hd, hg, tg, hG, g1, g2, hc, k⟩ := h
    refine ⟨_, pss_cons (ps_set (i := 3) nd rfl (Or.inr rfl) (pe_op op_rep (pe_lst (pa_cons pe_int pa_nil)) (pe_op op_add (pv 2) pe_int)))
      (pss_cons (ps_for PassesOwn.never rfl (pi_list (pv 1)) (pg_name (i := 4) nd rfl (Or.inl rfl))
        (pss_cons (ps_set (i := 5) nd rfl (Or.inr rfl) (pe_call cT.ok hr (by rfl) cT.mgx cT.kp cT.b .nil pass0 (pa_cons (pv 0) (pa_cons (pv 4) (pa_cons (pv 2) pa_nil)))))
        (pss_one (ps_set (i := 3) nd rfl (Or.inr rfl)
            (pe_lc (own := [("degree", 6)]) (g := gName 6) (tt := tYes) rfl nd (pi_range1 (by rfl) B.range (pa_cons (pe_op op_add (pv 2) pe_int) pa_nil))
              (blkOk_by (N := NCs) (sc := defScope sCs) (by decide +kernel)) (fun _ _ _ _ _ => pg_name (i := 6) nd rfl (Or.inl rfl)) (fun _ _ _ _ _ => pts_nil)
              (fun _ _ _ _ _ => pe_op op_add (pe_ix (r := rIxL K) ix_list (pv 3) (pv 6) (fun _ _ => rfl)) (pe_ix (r := rIxL K) ix_list (pv 5) (pv 6) (fun _ _ => rfl))))))))
      (pss_one (ps_ret (pe_lc (own := [("total", 7)]) (g := gName 7) (tt := tYes) rfl nd (pi_list (pv 3))
              (blkOk_by (N := NCs) (sc := defScope sCs) (by decide +kernel)) (fun _ _ _ _ _ => pg_name (i := 7) nd rfl (Or.inl rfl)) (fun _ _ _ _ _ => pts_nil)
              (fun _ _ _ _ _ => pe_op op_fdiv (pv 7) (pe_callB (r := fun xs H Q => ∃ p ys, xs = [.ref p] ∧ (SqL K H p ys ∨ SqT K H p ys) ∧ Q (.int ys.length) H) call_len_seq (by rfl) B.len PySem.boot_len (pa_cons (pv 1) pa_nil))))))), ?_⟩
    refine ⟨show 1 ≤ sizeLine by decide, fun z hz => ?_⟩
    refine ⟨_, rfl, _, _, rfl, rfl, z, (d : Int) + 1, _, rfl, rfl, upd_same, by omega, by omega, ?_, fun l hl => ?_⟩
    · have : ((d : Int) + 1).toNat ≤ 9 := by omega
      exact Nat.le_of_lt (small1000 (by simp; omega))
    have hlH : H l = none := (same_upd hz).free hl
    have e0 : (List.replicate ((d : Int) + 1).toNat [V.int 0]).flatten = (tot n [] d).map V.int := by
      rw [tot_nil, show ((d : Int) + 1).toNat = d + 1 by omega, List.map_replicate]
      generalize d + 1 = m
      induction m with
      | zero => rfl
      | succ m ih => rw [List.replicate_succ, List.flatten_cons, ih, List.replicate_succ]; rfl
    rw [e0]
    have s0 : Same H (upd (upd H z (.lst [.int 0])) l (.lst ((tot n [] d).map V.int))) := (same_upd hz).trans (same_upd hl)
    refine ⟨_, rfl, g, rfl, ⟨_, SqL.of (s0 _ _ hg)⟩, for_list (K := K) (a := g) (xs := refs G) (fun i σ H' => ∃ (l : Addr) (va vb : Option V), σ = [some (.int n), some (.ref g), some (.int d), some (.ref l), va, vb, none, none] ∧ Same H H' ∧ H l = none ∧ H' l = some (.lst ((tot n (G.take i) d).map V.int)))
      ⟨l, none, none, rfl, s0, hlH, by rw [upd_same]; rfl⟩ (fun i σ H' _ ⟨_, _, _, _, s1, _⟩ => SqL.of (s1 _ _ hg)) ?_ ?_⟩
    · rintro i x σ H' hx ⟨l, va, vb, rfl, s1, hl, e1⟩
      obtain ⟨p, hp, rfl⟩ := refs_at hx
      have hpm := List.mem_of_getElem? hp
      have hiG : i < G.length := (List.getElem?_eq_some_iff.mp hp).1
      refine ⟨_, rfl, _, rfl, _, rfl, n, p.1, p.2, d, rfl, hn, hd, s1 _ _ (tg p hpm), (hG p hpm).1, (hG p hpm).2, fun H1 q s2 hq h1 => ?_⟩
      refine ⟨_, rfl, _, _, rfl, rfl, (d : Int) + 1, rfl, by omega, by omega, ?_⟩
      rw [show ((d : Int) + 1).toNat = d + 1 by omega]
      intro D hD
      refine lc_range (lo := 0) (fun m H2 => Same H1 H2 ∧ H2 D = some (.lst (((List.range m).map fun e => ((G.take (i + 1)).map fun p => LA.Tt n p.2 e).sum).map V.int))) ⟨same_upd hD, by rw [upd_same]; rfl⟩ ?_ ?_
      · rintro m H2 hm ⟨s3, h3⟩
        refine ⟨rfl, ?_⟩
        refine ⟨_, rfl, _, rfl, l, _, _, _, rfl, rfl, SqL.of (s3 _ _ (s2 _ _ e1)), at_of (j := m) (by omega) (getD_map (by simp [tot]; omega)), ?_⟩
        refine ⟨_, rfl, _, rfl, q, _, _, _, rfl, rfl, SqL.of (s3 _ _ h1), at_of (j := m) (by omega) (getD_map (by simp [tts]; omega)), ?_⟩
        refine ⟨_, _, rfl, rfl, ?_⟩
        rw [tot_at (by omega), tts_at (by omega)]
        refine ⟨_, h3, small1000 (by simp; omega), fun b o hb => ?_, ?_⟩
        · rw [upd_ne (ne_of_none hb hD)]
          exact s3 b o hb
        · rw [upd_same, List.range_succ, List.map_append, List.map_append, List.take_add_one, hp]
          simp
      · rintro H2 ⟨s3, h3⟩
        have s4 : Same H H2 := (s1.trans s2).trans s3
        exact ⟨D, some (.ref p.1), some (.ref q), rfl, s4, (s1.trans s2).free hD, h3⟩
    · rintro σ H' ⟨l, va, vb, rfl, s1, hl, e1⟩
      rw [len_refs, List.take_length] at e1
      refine ⟨_, rfl, l, rfl, ⟨_, SqL.of e1⟩, fun D hD => ?_⟩
      refine lc_list (K := K) (a := l) (xs := (tot n G d).map V.int) (fun i H2 => Same H' H2 ∧ H2 D = some (.lst (((List.range i).map c).map V.int))) ⟨same_upd hD, by rw [upd_same]; rfl⟩ (fun i H2 _ ⟨s2, _⟩ => SqL.of (s2 _ _ e1)) ?_ ?_
      · rintro i x H2 hx ⟨s2, h2⟩
        have hi : i < d + 1 := by
          have := (List.getElem?_eq_some_iff.mp hx).1
          simpa [tot] using this
        rw [getD_map (by simp [tot]; omega), tot_at (by omega), hc i (by omega)] at hx
        cases hx
        refine ⟨rfl, ?_⟩
        refine ⟨_, rfl, _, rfl, g, _, rfl, .inl (SqL.of (s2 _ _ (s1 _ _ hg))), _, _, rfl, rfl, ?_, ?_⟩
        · rw [len_refs]; exact ⟨by omega, by omega⟩
        · dsimp only
          rw [len_refs, Int.mul_ediv_cancel_left _ (by omega)]
          refine ⟨_, h2, small1000 (by simp; omega), fun b o hb => ?_, ?_⟩
          · rw [upd_ne (ne_of_none hb hD)]
            exact s2 b o hb
          · rw [upd_same, List.range_succ, List.map_append, List.map_append]
            rfl
      · rintro H2 ⟨s2, h2⟩
        have el : ((tot n G d).map V.int).length = d + 1 := by simp [tot]
        rw [el] at h2
        exact k H2 D (s1.trans s2) (s1.free hD) h2
end LF
end
section
set_option maxRecDepth 100000
set_option maxHeartbeats 4000000
namespace LF
open PySem PySem.Spec PyProof.Rows L2
variable {P : Program} {w : World} {K : PySem.W.Frag} {mg : Str → Option Value} {base : Heap} {C : Addr}
abbrev sAd : Stmt := inClass (top 57) 10
def NAd : List Str := ["self", "d"]
theorem scAd : FnScope NAd ["self", "d"] (defScope sAd) := ⟨rfl, rfl, rfl, by decide +kernel, rfl, by decide +kernel, by decide +kernel⟩
/-- allows_degree -/
def spAd (C : Addr) : Sp := fun vs H Q _ => ∃ (z0 a : Addr) (s : Wp04.State) (z : Int), vs = [.ref a, .int z] ∧ LineAt C z0 H a s ∧ Q (.bl (decide (0 ≤ z ∧ z ≤ LA.most s.n))) H
theorem kv_most {n : Nat} (hn : n = 2 ∨ n = 3) : kvDeg.lookup (n : Int) = some (LA.most n : Int) := by rcases hn with rfl | rfl <;> decide
theorem ok_ad {f d : Addr} {fd : FuncData} (F : Fun K "allows_degree" "Line.allows_degree" sAd f fd) (T : LTxt K C) (hD : mg "GREATEST_DEGREES" = some (.ref d)) (D : KDi K d kvDeg) :
    FnOk P w K mg base CX0 1 f fd ["self", "d"] (spAd C) := by
  refine F.ok scAd (fun vs H Q E h => ?_) (fun cdv A outer s H vs Q E hr h => ?_)
  · obtain ⟨z0, a, s, z, rfl, _⟩ := h
    rfl
  · have nd : NAd.Nodup := scAd.nd
    obtain ⟨z0, a, st, z, rfl, L, k⟩ := h
    refine ⟨_, pss_one (ps_ret (pe_chain op_le op_le pe_int (pv 1) (pe_ix (r := rIxI d kvDeg) (ix_intD D) (pe_glob (v := .ref d) rfl hD rfl) (pe_fld (pv 0) rfl) (fun _ _ => rfl)))), ?_⟩
    obtain ⟨dx, tl, tb, TT, G, hp, _, _, _, _, _, _, S, _⟩ := L
    refine ⟨_, rfl, _, _, rfl, rfl, _, rfl, ?_⟩
    by_cases c : 0 ≤ z
    · refine ifT (decide_eq_true c) ?_
      refine ⟨_, rfl, a, C, dx, _, _, rfl, hp, T.cl, T.nU, lF_u _ _ _, _, _, rfl, rfl, kv_most S.ok.hn, _, _, rfl, rfl, ?_⟩
      have e : decide (0 ≤ z ∧ z ≤ (LA.most st.n : Int)) = decide (z ≤ (LA.most st.n : Int)) := by simp [c]
      rw [e] at k
      exact k
    · refine ifF (decide_eq_false c) ?_
      have e : decide (0 ≤ z ∧ z ≤ (LA.most st.n : Int)) = false := decide_eq_false fun h => c h.1
      rw [e] at k
      exact k
/-! ### table -/
abbrev sTa : Stmt := inClass (top 57) 2
def NTa : List Str := ["self", "numbers", "told", "tables"]
theorem scTa : FnScope NTa ["self", "numbers"] (defScope sTa) := ⟨rfl, rfl, rfl, by decide +kernel, rfl, by decide +kernel, by decide +kernel⟩
/-- table -/
def spTa (C : Addr) : Sp := fun vs H Q _ => ∃ (z0 a l : Addr) (s : Wp04.State) (r : List Int), vs = [.ref a, .ref l] ∧ LineAt C z0 H a s ∧ H l = some (.lst (r.map V.int)) ∧ r.length ≤ 1000 ∧ s.gens.length < 30 ∧ Ans C z0 (.table r) a s H Q
theorem isTab_ok (n : Nat) (r : List Int) : isTab n r = LA.tabOk n r := by
  unfold isTab LA.tabOk
  congr 1
  · exact decide_eq_decide.mpr ⟨fun h => by exact_mod_cast h, fun h => by exact_mod_cast h⟩
  · congr 1
    funext z
    exact decide_eq_decide.mpr (by split <;> omega)
theorem ok_ta {f : Addr} {fd : FuncData} (F : Fun K "table" "Line.table" sTa f fd) (B : Bi mg) (T : LTxt K C) {tk tk2 tk6 : Tok} (hN : mg "NOT_ALLOWED" = some (.int (-1) tk)) (hM : mg "TOO_MANY_TABLES" = some (.int (-2) tk2)) (hX : mg "NOT_UNDONE" = some (.int (-6) tk6))
    (cI : Cal P w K mg base "is_table" 1 ["n", "numbers"] spIt) (cG : Cal P w K mg base "group_of" 2 ["n", "told"] spGo) (cU : Cal P w K mg base "can_be_undone" 2 ["n", "table", "group"] spCu) :
    FnOk P w K mg base CX0 3 f fd ["self", "numbers"] (spTa C) := by
  refine F.ok scTa (fun vs H Q E h => ?_) (fun cdv A outer s H vs Q E hr h => ?_)
  · obtain ⟨z0, a, l, s, r, rfl, _⟩ := h
    rfl
  · have nd : NTa.Nodup := scTa.nd
    have hr1 : Room 1 _ := hr.mono (by decide)
    obtain ⟨z0, a, l, st, r, rfl, L, hl, rl, gl, k⟩ := h
    refine ⟨_, pss_cons (ps_if (pt_not (pt_val (pe_call cI.ok hr1 (by rfl) cI.mgx cI.kp cI.b .nil pass0 (pa_cons (pe_fld (pv 0) rfl) (pa_cons (pv 1) pa_nil))))) (pss_one (ps_ret (pe_lst (pa_cons (pe_glob (v := .int (-1)) rfl hN ⟨_, rfl⟩) pa_nil)))) pss_nil)
      (pss_cons (ps_set (i := 2) nd rfl (Or.inl rfl) (pe_op op_cat (pe_fld (pv 0) rfl) (pe_lst (pa_cons (pe_callTy call_tuple_of (by rfl) B.tuple (by decide +kernel) (pa_cons (pv 1) pa_nil)) pa_nil))))
      (pss_cons (ps_set (i := 3) nd rfl (Or.inl rfl) (pe_call cG.ok hr (by rfl) cG.mgx cG.kp cG.b .nil pass0 (pa_cons (pe_fld (pv 0) rfl) (pa_cons (pv 2) pa_nil))))
      (pss_cons (ps_if (pt_cmp (pc_isN (pv 3))) (pss_one (ps_ret (pe_lst (pa_cons (pe_glob (v := .int (-2)) rfl hM ⟨_, rfl⟩) pa_nil)))) pss_nil)
      (pss_cons (ps_if (pt_not (pt_val (pe_call cU.ok hr (by rfl) cU.mgx cU.kp cU.b .nil pass0 (pa_cons (pe_fld (pv 0) rfl) (pa_cons (pe_callTy call_tuple_of (by rfl) B.tuple (by decide +kernel) (pa_cons (pv 1) pa_nil)) (pa_cons (pv 3) pa_nil)))))) (pss_one (ps_ret (pe_lst (pa_cons (pe_glob (v := .int (-6)) rfl hX ⟨_, rfl⟩) pa_nil)))) pss_nil)
      (pss_cons (ps_fld (pv 0) (pv 2) rfl)
      (pss_cons (ps_fld (pv 0) (pv 3) rfl)
      (pss_one (ps_ret (pe_lst (pa_cons (pe_callB call_len_seq (by rfl) B.len PySem.boot_len (pa_cons (pv 3) pa_nil)) pa_nil)))))))))), ?_⟩
    have L0 := L
    obtain ⟨dx, tl, tb, TT, G, hp, htl, hTT, eT, htb, hG, eG, S, n1, n2, n3, oz, hz⟩ := L
    have hn := S.ok.hn
    refine ⟨_, rfl, a, C, dx, _, _, rfl, hp, T.cl, T.nU, lF_u _ _ _, _, rfl, st.n, l, r, rfl, (by rcases hn with h | h <;> omega), hl, rl, fun H1 s1 => ⟨_, rfl, ?_⟩⟩
    rw [isTab_ok]
    cases c : LA.tabOk st.n r with
    | false =>
      refine ifT rfl ?_
      refine ⟨(by show 1 ≤ sizeLine; decide), fun p hp' => ?_⟩
      exact ans_one k L0 (LA.step_bad c) s1 hp'
    | true =>
      refine ifF rfl ?_
      obtain ⟨c1, c2⟩ := LA.tabOk_iff c
      refine ⟨_, rfl, a, C, dx, _, _, rfl, s1 _ _ hp, T.cl, T.nT, lF_t _ _ _, ?_⟩
      refine ⟨_, rfl, l, _, rfl, .inl ⟨SqL.of (s1 _ _ hl), fun q hq => ⟨(by show 1 ≤ sizeLine; decide), fun m hm => ?_⟩⟩⟩
      have s2 : Same H1 (upd H1 q (.tup (r.map V.int))) := same_upd hq
      have s3 := same_upd (o := HO.lst [V.ref q]) hm
      have k3 := (s1.trans s2).trans s3
      have hlen : TT.length = st.gens.length := by rw [← eT, List.length_map]
      refine ⟨tl, m, _, _, rfl, rfl, k3 _ _ htl, upd_same, ?_, fun t ht => ?_⟩
      · rw [len_refs, List.length_singleton]
        exact Nat.le_trans (by omega : TT.length + 1 ≤ 1000) (by decide)
      have s4 := same_upd (o := HO.lst (refs TT ++ [V.ref q])) ht
      have k4 := k3.trans s4
      have hq4 : (upd (upd (upd H1 q (.tup (r.map V.int))) m (.lst [V.ref q])) t (.lst (refs TT ++ [V.ref q]))) q = some (.tup (r.map V.int)) := s4 _ _ (s3 _ _ upd_same)
      have er : refs (TT ++ [(q, r)]) = refs TT ++ [V.ref q] := by simp [refs]
      have em : (TT ++ [(q, r)]).map (·.2) = st.gens ++ [r] := by rw [List.map_append, eT]; rfl
      have tl4 : TL (upd (upd (upd H1 q (.tup (r.map V.int))) m (.lst [V.ref q])) t (.lst (refs TT ++ [V.ref q]))) (TT ++ [(q, r)]) := fun x hx => by
        rcases List.mem_append.mp hx with h | h
        · exact k4 _ _ (hTT x h)
        · rw [List.mem_singleton.mp h]
          exact hq4
      generalize hH4 : upd (upd (upd H1 q (.tup (r.map V.int))) m (.lst [V.ref q])) t (.lst (refs TT ++ [V.ref q])) = H4 at *
      have ht4 : H4 t = some (.lst (refs (TT ++ [(q, r)]))) := by
        rw [← hH4, upd_same, er]
      refine ⟨_, rfl, a, C, dx, _, _, rfl, k4 _ _ hp, T.cl, T.nU, lF_u _ _ _, _, rfl, st.n, t, TT ++ [(q, r)], rfl, ht4, tl4, (by rw [em]; exact LA.gi_more S.gi c1 c2), (by rw [List.length_append, List.length_singleton]; omega), ?_, ?_⟩
      · rw [em]
        intro g48 H5 s5
        refine ⟨_, rfl, _, rfl, ifT (decide_eq_true rfl) ?_⟩
        refine ⟨(by show 1 ≤ sizeLine; decide), fun p hp' => ?_⟩
        exact ans_one k L0 (LA.step_many c g48) (k4.trans s5) hp'
      · rw [em]
        intro g48 H5 g5 G5 s5 n5 h5 t5 e5
        refine ⟨_, rfl, _, rfl, ifF (decide_eq_false fun e => nomatch e) ?_⟩
        have k5 := k4.trans s5
        have lens : ∀ p ∈ G5, p.2 ∈ Wp04.group st.n (st.gens ++ [r]) := fun p hp' => by
          rw [← e5]
          exact List.mem_map_of_mem hp'
        have gl5 : G5.length = (Wp04.group st.n (st.gens ++ [r])).length := by rw [← e5, List.length_map]
        refine ⟨_, rfl, a, C, dx, _, _, rfl, k5 _ _ hp, T.cl, T.nU, lF_u _ _ _, _, rfl, l, _, rfl, .inl ⟨SqL.of (k5 _ _ hl), fun q6 hq6 => ?_⟩⟩
        have s6 := same_upd (o := HO.tup (r.map V.int)) hq6
        refine ⟨_, rfl, st.n, q6, g5, r, G5, rfl, hn, upd_same, s6 _ _ h5, t5.same s6, c1, ?_, ?_, ?_, fun H7 s7 => ⟨_, rfl, ?_⟩⟩
        · exact fun z hz => Nat.lt_of_le_of_lt (c2 z hz) (Nat.lt_of_lt_of_le (by decide : 2 < 2 ^ 2) (Nat.pow_le_pow_right (by decide) (by decide)))
        · exact fun p hp' => ⟨LA.group_lens g48 _ (lens p hp'), fun z hz => Nat.lt_of_lt_of_le (GC.group_short (LA.gi_more S.gi c1 c2) g48 (lens p hp') z hz) (Nat.pow_le_pow_right (by decide) (by decide))⟩
        · omega
        have ea : (G5.any fun p => decide (Wp04.then_ st.n r p.2 = Wp04.ident st.n)) = (Wp04.group st.n (st.gens ++ [r])).any fun p => decide (Wp04.then_ st.n p r = Wp04.ident st.n) := by
          rw [← LA.any_swap hn (LA.group_lens g48) c1, ← e5, List.any_map]
          rfl
        rw [ea]
        have k7 := k5.trans (s6.trans s7)
        cases u : (Wp04.group st.n (st.gens ++ [r])).any fun p => decide (Wp04.then_ st.n p r = Wp04.ident st.n) with
        | false =>
          refine ifT rfl ?_
          refine ⟨(by show 1 ≤ sizeLine; decide), fun p hp' => ?_⟩
          exact ans_one k L0 (LA.step_und c g48 u) k7 hp'
        | true =>
          refine ifF rfl ?_
          have h7a := k7 _ _ hp
          have h7t := (s5.trans (s6.trans s7)) _ _ ht4
          have h7g := (s6.trans s7) _ _ h5
          have na : ∀ {b : Addr} {xs : List V}, H7 b = some (.lst xs) → b ≠ a := fun h => ne_of h h7a (by intro z; cases z)
          refine ⟨_, rfl, _, rfl, a, C, dx, _, rfl, h7a, T.cl, T.nT, (by show 3 < 1000; decide), ?_⟩
          refine ⟨_, rfl, _, rfl, a, C, dx, _, rfl, upd_same, T.cl, T.nG, (by show 3 < 1000; decide), ?_⟩
          rw [lF_pt, lF_pg]
          have g9 : (upd (upd H7 a (.ins C dx (lF st.n t tb))) a (.ins C dx (lF st.n t g5))) g5 = some (.lst (refs G5)) := by
            rw [upd_ne (na h7g), upd_ne (na h7g)]
            exact h7g
          refine ⟨_, rfl, g5, _, rfl, .inl (SqL.of g9), (by show 1 ≤ sizeLine; decide), fun p hp' => ?_⟩
          have f9 : Fra a H7 (upd (upd H7 a (.ins C dx (lF st.n t tb))) a (.ins C dx (lF st.n t g5))) := Fra.upd (Fra.upd (Fra.of fun _ _ h => h))
          have e := LA.step_tab c g48 u
          have sp := same_upd (o := HO.lst [V.int ((refs G5).length : Int)]) hp'
          have La : LineAt C z0 (upd (upd H7 a (.ins C dx (lF st.n t tb))) a (.ins C dx (lF st.n t g5))) a { st with gens := st.gens ++ [r] } :=
            ⟨dx, t, g5, TT ++ [(q, r)], G5, upd_same, f9 _ _ h7t (na h7t), (tl4.same (s5.trans (s6.trans s7))).fra f9 h7a, em, g9, (t5.same (s6.trans s7)).fra f9 h7a, e5, LA.lst_table S c1 c2 g48 u, (ne_of_none (k3 _ _ hz) ht).symm, (ne_of_none (k4 _ _ hz) n5).symm, n3, oz, f9 _ _ (k7 _ _ hz) n3⟩
          refine k _ p ?_ ?_ ?_ ?_
          · rw [e]
            exact La.same sp
          · exact (Fra.trans (.of k7) f9).trans (.of sp)
          · cases q0 : H p with
            | none => rfl
            | some o =>
              exfalso
              by_cases cr : p = a
              · rw [cr, upd_same] at hp'
                cases hp'
              · rw [f9 _ _ (k7 _ _ q0) cr] at hp'
                cases hp'
          · rw [e, upd_same, len_refs, gl5]
            rfl
end LF
end
section
set_option maxRecDepth 100000
set_option maxHeartbeats 4000000
/-! sum of a tuple of ints -/
namespace LF
open PySem PySem.Spec PyProof.Rows L2
theorem preSum_take (ns : List Int) : ∀ k, k ≤ ns.length → preSum (fun i => ns.getD i 0) k = (ns.take k).sum
  | 0, _ => by simp [preSum]
  | k + 1, h => by
    have ih := preSum_take ns k (by omega)
    rw [List.take_add_one, List.getElem?_eq_getElem (by omega), List.sum_append, ← ih]
    show _ + ns.getD k 0 = _
    simp [List.getD_eq_getElem?_getD, List.getElem?_eq_getElem (show k < ns.length by omega)]
theorem ints_at : ∀ {its : List Value} {ns : List Int}, IntsAre its ns → ∀ i v, its.toArray[i]? = some v → ∃ t, v = Value.int (ns.getD i 0) t
  | _, _, .nil, i, v, h => by simp at h
  | _, _, .cons n t r, 0, v, h => by
    simp at h
    exact ⟨t, h.symm⟩
  | _, _, .cons n t r, i + 1, v, h => by
    have := ints_at r i v (by simpa using h)
    simpa using this
def rSumT (K : PySem.W.Frag) : List V → Hp → VK → Prop := fun vs H Q => ∃ (a : Addr) (ns : List Int), vs = [V.ref a] ∧ SqT K H a (ns.map V.int) ∧ Q (.int ns.sum) H
theorem cr_sumT {X : Cx} (hc : X.calm = true) : CallR X (.builtin "sum") (rSumT X.K) := by
  intro pins s σ H vs us Q I r h
  obtain ⟨a, ns, rfl, hs, q⟩ := h
  obtain ⟨its, rv, ht, _⟩ := I.tuple hs
  rw [Vals.ref1 r]
  have hi : IntsAre its ns := rv.ints
  have hlen : its.length = ns.length := hi.length
  have hlt : a < s.heap.objs.size := by obtain ⟨_, e, _⟩ := ht; exact Heap.lt_size e
  have ht2 : s.heap.IsTuple a its.toArray := ht
  refine call_sum_walkG (wpAny_pyIter_tuple ht2 ?_)
  refine ⟨_, _, _, _, _, _, fun i => ns.getD i 0, rfl, Walks.tuple (A := X.A.in1) (I.ok.hd hc) s.heap.objs.size a (Nat.ne_of_lt hlt) its.toArray, ⟨⟨_, Heap.get?_push_size _ rfl, rfl, rfl⟩, ht2.push _⟩, fun b hb => ?_, fun i v hv => ints_at hi i v hv, fun h' tk t' hk => ?_⟩
  · show b < (s.heap.push _).objs.size
    rw [Heap.size_push]
    simp at hb
    rcases hb with rfl | rfl
    · exact Nat.lt_succ_self _
    · exact Nat.lt_succ_of_lt hlt
  · refine ⟨.int ns.sum, H, I.kept fun b o e => hk b o (fun hm => ?_) (Heap.get?_push_of_some _ e), ⟨t', ?_⟩, q⟩
    · have := Heap.lt_size e
      simp at hm
      exact absurd (hm ▸ this) (Nat.lt_irrefl _)
    · rw [List.size_toArray, hlen, preSum_take ns _ (Nat.le_refl _), List.take_length]
end LF
end
section
set_option maxRecDepth 100000
set_option maxHeartbeats 4000000
namespace LF
open PySem PySem.Spec PyProof.Rows L2
variable {P : Program} {w : World} {K : PySem.W.Frag} {mg : Str → Option Value} {base : Heap}
def toI (m : List Nat) : List Int := m.map fun (k : Nat) => (k : Int)
theorem toI_app (a b : List Nat) : toI (a ++ b) = toI a ++ toI b := by simp [toI]
theorem toI_sum : ∀ m : List Nat, (toI m).sum = (m.sum : Int)
  | [] => rfl
  | k :: m => by
    have := toI_sum m
    show (k : Int) + (toI m).sum = _
    rw [this]
    simp
theorem toI_len (m : List Nat) : (toI m).length = m.length := by simp [toI]
abbrev sMo : Stmt := top 11
def NMo : List Str := ["n", "d", "begun", "unknown", "longer", "powers", "power"]
theorem scMo : FnScope NMo ["n", "d"] (defScope sMo) := ⟨rfl, rfl, rfl, by decide +kernel, rfl, by decide +kernel, by decide +kernel⟩
/-- monomials -/
def spMo : Sp := fun vs H Q _ => ∃ n d : Nat, vs = [.int n, .int d] ∧ (n = 2 ∨ n = 3) ∧ d ≤ 8 ∧
  ∀ (H' : Hp) (p : Addr) (L : List (Addr × List Int)), Same H H' → H p = none → H' p = some (.lst (refs L)) → TL H' L → L.map (·.2) = (Wp04.monos n d).map toI → Q (.ref p) H'
theorem rev_at {D j : Nat} (h : j < D + 1) : ((List.range (D + 1)).reverse)[j]? = some (D - j) := by
  rw [List.getElem?_reverse (by simpa using h), List.length_range, List.getElem?_range (by omega)]
  congr 1
theorem refs_tup_ne {H : Hp} {l : Addr} {L : List (Addr × List Int)} (hl : H l = some (.lst (refs L))) {p : Addr} {xs : List V} (hp : H p = some (.tup xs)) : p ≠ l := fun z => by
  rw [z, hl] at hp
  cases hp
/-- t + (k,): the new tuple -/
theorem cat1 {H : Hp} {a q : Addr} {t : List Int} {z : Int} {Q : VK} (ha : H a = some (.tup (t.map V.int))) (hq : H q = some (.tup [.int z])) (hl : t.length ≤ 1000)
    (k : ∀ (H' : Hp) (p : Addr), Same H H' → H' p = some (.tup ((t ++ [z]).map V.int)) → Q (.ref p) H') : rCatA K (.ref a) (.ref q) H Q := by
  refine ⟨a, q, _, _, rfl, rfl, SqT.of ha, SqT.of hq, ?_, fun e => ?_, fun _ e => (List.cons_ne_nil _ _ e).elim, fun _ _ p hp => ?_⟩
  · have : 1001 ≤ sizeLine := by decide
    simp
    omega
  · have : t = [] := by simpa using e
    subst this
    exact k H q (Same.refl _) hq
  · refine k _ p (same_upd hp) ?_
    rw [upd_same]
    simp
theorem ok_mo {f : Addr} {fd : FuncData} (F : Fun K "monomials" "monomials" sMo f fd) (B : Bi mg) : FnOk P w K mg base CX0 1 f fd ["n", "d"] spMo := by
  refine F.ok scMo (fun vs H Q E h => ?_) (fun cdv A outer s H vs Q E hr h => ?_)
  · obtain ⟨n, d, rfl, _⟩ := h
    rfl
  · have nd : NMo.Nodup := scMo.nd
    obtain ⟨n, d, rfl, hn, hd, k⟩ := h
    refine ⟨_, pss_cons (ps_set (i := 2) nd rfl (Or.inl rfl) (pe_lst (pa_cons (pe_tup pa_nil) pa_nil)))
      (pss_cons (ps_for PassesOwn.never rfl (pi_range1 (by rfl) B.range (pa_cons (pe_op op_sub (pv 0) pe_int) pa_nil)) (pg_name (i := 3) nd rfl (Or.inl rfl))
        (pss_cons (ps_set (i := 4) nd rfl (Or.inl rfl) (pe_lst pa_nil))
        (pss_cons (ps_for PassesOwn.never rfl (pi_list (pv 2)) (pg_name (i := 5) nd rfl (Or.inl rfl))
          (pss_one (ps_for PassesOwn.never rfl (pi_range3 (by rfl) B.range (pa_cons (pe_op op_sub (pv 1) (pe_callB (cr_sumT rfl) (by rfl) B.sum (by decide +kernel) (pa_cons (pv 5) pa_nil))) (pa_cons (pe_un un_neg pe_int) (pa_cons (pe_un un_neg pe_int) pa_nil)))) (pg_name (i := 6) nd rfl (Or.inl rfl))
            (pss_one (ps_expr (pe_bm PySem.F.plainAttrs_list PySem.F.slot_list_append PySem.F.type_list_append mt_append (pv 4) (pa_cons (pe_op op_catA (pv 5) (pe_tup (pa_cons (pv 6) pa_nil))) pa_nil)))))))
        (pss_one (ps_set (i := 2) nd rfl (Or.inl rfl) (pv 4))))))
      (pss_one (ps_ret (pe_lc (own := [("powers", 5)]) (g := gName 5) (tt := tYes) rfl nd (pi_list (pv 2))
          (blkOk_by (N := NMo) (sc := defScope sMo) (by decide +kernel)) (fun _ _ _ _ _ => pg_name (i := 5) nd rfl (Or.inl rfl)) (fun _ _ _ _ _ => pts_nil)
          (fun _ _ _ _ _ => pe_op (r := rCatA K) op_catA (pv 5) (pe_tup (pa_cons (pe_op op_sub (pv 1) (pe_callB (r := rSumT K) (cr_sumT rfl) (by rfl) B.sum (by decide +kernel) (pa_cons (pv 5) pa_nil))) pa_nil))))))), ?_⟩
    refine ⟨by decide, fun e he => ⟨show 1 ≤ sizeLine by decide, fun b0 hb0 => ?_⟩⟩
    have s0 : Same H (upd (upd H e (.tup [])) b0 (.lst [.ref e])) := (same_upd he).trans (same_upd hb0)
    refine ⟨_, rfl, _, _, rfl, rfl, (n : Int) - 1, rfl, by omega, by omega, ?_⟩
    rw [show ((n : Int) - 1).toNat = n - 1 by omega]
    refine for_range (lo := 0) (n := n - 1) (fun u σ H' => ∃ (b : Addr) (Lb : List (Addr × List Int)) (v3 v4 v5 v6 : Option V), σ = [some (.int n), some (.int d), some (.ref b), v3, v4, v5, v6] ∧ Same H H' ∧ H b = none ∧ H' b = some (.lst (refs Lb)) ∧ TL H' Lb ∧ Lb.map (·.2) = (LA.stg d u).map toI)
      ⟨b0, [(e, [])], none, none, none, none, rfl, s0, (same_upd he).free hb0, upd_same, fun p hp => ?_, rfl⟩ ?_ ?_
    · simp at hp; subst hp
      rw [upd_ne (ne_of_none upd_same hb0)]
      exact upd_same
    · rintro u σ H' hu ⟨b, Lb, v3, v4, v5, v6, rfl, s1, hb, e1, t1, q1⟩
      have hLb : Lb.length ≤ 81 := by
        have h1 := congrArg List.length q1
        have h2 := LA.stg_len d u
        rw [List.length_map, List.length_map] at h1
        have : (d + 1) ^ u ≤ 9 ^ 2 := Nat.le_trans (Nat.pow_le_pow_left (by omega) u) (Nat.pow_le_pow_right (by decide) (by omega))
        omega
      have hat : ∀ (i : Nat) (p : Addr × List Int), Lb[i]? = some p → ∃ m, (LA.stg d u)[i]? = some m ∧ p.2 = toI m := fun i p hp => by
        have := congrArg (fun l => l[i]?) q1
        simp only [List.getElem?_map, hp] at this
        cases em : (LA.stg d u)[i]? with
        | none => rw [em] at this; cases this
        | some m => rw [em] at this; exact ⟨m, rfl, Option.some.inj this⟩
      refine ⟨by decide, fun lo hlo => ?_⟩
      have hloH : H lo = none := s1.free hlo
      have hblo : b ≠ lo := ne_of_none e1 hlo
      refine ⟨_, rfl, b, rfl, ⟨_, SqL.of (same_upd hlo _ _ e1)⟩, for_list (K := K) (a := b) (xs := refs Lb) (fun i σ H2 => ∃ (Ll : List (Addr × List Int)) (v5 v6 : Option V), σ = [some (.int n), some (.int d), some (.ref b), some (.int (0 + u)), some (.ref lo), v5, v6] ∧ Same H' H2 ∧ H2 lo = some (.lst (refs Ll)) ∧ TL H2 Ll ∧ Ll.map (·.2) = (((LA.stg d u).take i).flatMap (LA.more d)).map toI)
        ⟨[], v5, v6, rfl, same_upd hlo, upd_same, by simp [TL], rfl⟩ (fun i σ H2 _ ⟨_, _, _, _, s2, _⟩ => SqL.of (s2 _ _ e1)) ?_ ?_⟩
      · rintro i x σ H2 hx ⟨Ll, v5, v6, rfl, s2, e2, t2, q2⟩
        obtain ⟨p, hp, rfl⟩ := refs_at hx
        obtain ⟨m, hm, em⟩ := hat i p hp
        have hi : i < 81 := by have := (List.getElem?_eq_some_iff.mp hp).1; omega
        obtain ⟨hms, hml⟩ := LA.stg_sum d u m (List.mem_of_getElem? hm)
        have hpt := t1.at hp
        rw [em] at hpt
        have hLl : Ll.length ≤ 81 * 9 := by
          have h1 := congrArg List.length q2
          rw [List.length_map, List.length_map] at h1
          have : ∀ l : List (List Nat), (l.flatMap (LA.more d)).length ≤ l.length * 9 := by
            intro l
            induction l with
            | nil => simp
            | cons a l ih2 =>
              have := LA.more_len d a
              rw [List.flatMap_cons, List.length_append, List.length_cons, Nat.add_mul]
              omega
          have h3 := this ((LA.stg d u).take i)
          have h4 : ((LA.stg d u).take i).length ≤ 81 := by rw [List.length_take]; omega
          have : ((LA.stg d u).take i).length * 9 ≤ 81 * 9 := Nat.mul_le_mul_right _ h4
          omega
        refine ⟨_, rfl, _, rfl, p.1, toI m, rfl, SqT.of (s2 _ _ hpt), _, _, rfl, rfl, _, rfl, _, rfl, ?_⟩
        refine ⟨(d : Int) - (toI m).sum, -1, -1, d - m.sum + 1, rfl, ?_, ?_⟩
        · rw [toI_sum]
          have := RgC.neg (i := (d : Int) - m.sum) (j := -1) (by omega) (by omega) (by omega) (by omega)
          rw [show ((d : Int) - m.sum - (-1)).toNat = d - m.sum + 1 by omega] at this
          exact this
        refine for_rangeC (lo := (d : Int) - (toI m).sum) (c := -1) (n := d - m.sum + 1) (fun j σ H3 => ∃ (Ll : List (Addr × List Int)) (v6 : Option V), σ = [some (.int n), some (.int d), some (.ref b), some (.int (0 + u)), some (.ref lo), some (.ref p.1), v6] ∧ Same H' H3 ∧ H3 lo = some (.lst (refs Ll)) ∧ TL H3 Ll ∧
          Ll.map (·.2) = (((LA.stg d u).take i).flatMap (LA.more d) ++ (LA.more d m).take j).map toI) ⟨Ll, v6, rfl, s2, e2, t2, by simp [q2]⟩ ?_ ?_
        · rintro j σ H3 hj ⟨Ll3, v6, rfl, s3, e3, t3, q3⟩
          refine ⟨_, rfl, .inl ⟨rfl, _, SqL.of e3⟩, _, rfl, _, rfl, show 1 ≤ sizeLine by decide, fun q hq => ?_⟩
          refine cat1 (K := K) (t := toI m) (z := (d : Int) - (toI m).sum + (j : Nat) * (-1)) (by rw [upd_ne (ne_of_none (s3 _ _ hpt) hq)]; exact s3 _ _ hpt) upd_same (by rw [toI_len]; omega) fun H4 r s4 h4 => ?_
          have e4 : H4 lo = some (.lst (refs Ll3)) := s4 _ _ (same_upd hq _ _ e3)
          have hlen3 : Ll3.length ≤ 900 := by
            have h1 := congrArg List.length q3
            have h2 := congrArg List.length q2
            have h5 := LA.more_len d m
            simp only [List.length_map, List.length_append, List.length_take] at h1 h2
            omega
          refine ⟨lo, _, _, rfl, rfl, e4, small1000 (by rw [len_refs]; omega), ?_⟩
          have s5 : Same H' H4 := (s3.trans (same_upd hq)).trans s4
          have t4 : TL H4 Ll3 := (t3.same (same_upd hq)).same s4
          refine ⟨Ll3 ++ [(r, toI m ++ [(d : Int) - (toI m).sum + (j : Nat) * (-1)])], _, rfl, fun b' o hb' => ?_, ?_, fun y hy => ?_, ?_⟩
          · rw [upd_ne (ne_of_none hb' hlo)]
            exact s5 b' o hb'
          · rw [upd_same]; simp [refs]
          · rcases List.mem_append.mp hy with hy | hy
            · rw [upd_ne (refs_tup_ne e4 (t4 y hy))]
              exact t4 y hy
            · rw [List.mem_singleton.mp hy, upd_ne (refs_tup_ne e4 h4)]
              exact h4
          · rw [List.map_append, q3, List.take_add_one]
            have e6 : (LA.more d m)[j]? = some (m ++ [d - m.sum - j]) := by
              unfold LA.more
              rw [List.getElem?_map, rev_at hj]
              rfl
            rw [e6, ← List.append_assoc, List.map_append (l₂ := Option.toList _)]
            congr 1
            simp only [Option.toList_some, List.map_cons, List.map_nil, toI_app, toI_sum]
            simp [toI]
            omega
        · rintro σ H3 ⟨Ll3, v6, rfl, s3, e3, t3, q3⟩
          refine ⟨Ll3, some (.ref p.1), v6, rfl, s3, e3, t3, ?_⟩
          have e7 : (LA.stg d u).take (i + 1) = (LA.stg d u).take i ++ [m] := by rw [List.take_add_one, hm]; rfl
          have e8 : (LA.more d m).take (d - m.sum + 1) = LA.more d m := List.take_of_length_le (by simp [LA.more])
          rw [q3, e7, e8, List.flatMap_append]
          simp
      · rintro σ H2 ⟨Ll, v5, v6, rfl, s2, e2, t2, q2⟩
        have hlen : (refs Lb).length = (LA.stg d u).length := by
          rw [len_refs]
          have := congrArg List.length q1
          simpa using this
        rw [hlen, List.take_length] at q2
        exact ⟨_, rfl, lo, Ll, _, _, _, _, rfl, s1.trans s2, hloH, e2, t2, q2⟩
    · rintro σ H' ⟨b, Lb, v3, v4, v5, v6, rfl, s1, hb, e1, t1, q1⟩
      have hLb : Lb.length ≤ 81 := by
        have h1 := congrArg List.length q1
        have h2 := LA.stg_len d (n - 1)
        rw [List.length_map, List.length_map] at h1
        have : (d + 1) ^ (n - 1) ≤ 9 ^ 2 := Nat.le_trans (Nat.pow_le_pow_left (by omega) _) (Nat.pow_le_pow_right (by decide) (by omega))
        omega
      refine ⟨_, rfl, b, rfl, ⟨_, SqL.of e1⟩, fun D hD => ?_⟩
      refine lc_list (K := K) (a := b) (xs := refs Lb) (fun i H2 => Same H' H2 ∧ ∃ Ln : List (Addr × List Int), H2 D = some (.lst (refs Ln)) ∧ TL H2 Ln ∧ Ln.map (·.2) = (((LA.stg d (n - 1)).take i).map fun m => m ++ [d - m.sum]).map toI) ⟨same_upd hD, [], by rw [upd_same]; rfl, by simp [TL], rfl⟩
        (fun i H2 _ ⟨s2, _⟩ => SqL.of (s2 _ _ e1)) ?_ ?_
      · rintro i x H2 hx ⟨s2, Ln, e2, t2, q2⟩
        obtain ⟨p, hp, rfl⟩ := refs_at hx
        obtain ⟨m, hm, em⟩ : ∃ m, (LA.stg d (n - 1))[i]? = some m ∧ p.2 = toI m := by
          have := congrArg (fun l => l[i]?) q1
          simp only [List.getElem?_map, hp] at this
          cases em : (LA.stg d (n - 1))[i]? with
          | none => rw [em] at this; cases this
          | some m => rw [em] at this; exact ⟨m, rfl, Option.some.inj this⟩
        obtain ⟨hms, hml⟩ := LA.stg_sum d (n - 1) m (List.mem_of_getElem? hm)
        have hpt := s2 _ _ (t1.at hp)
        rw [em] at hpt
        refine ⟨rfl, ?_⟩
        refine ⟨_, rfl, _, rfl, _, rfl, p.1, toI m, rfl, SqT.of hpt, _, _, rfl, rfl, show 1 ≤ sizeLine by decide, fun q hq => ?_⟩
        refine cat1 (K := K) (t := toI m) (z := (d : Int) - (toI m).sum) (by rw [upd_ne (ne_of_none hpt hq)]; exact hpt) upd_same (by rw [toI_len]; omega) fun H4 r s4 h4 => ?_
        have e4 : H4 D = some (.lst (refs Ln)) := s4 _ _ (same_upd hq _ _ e2)
        have s5 : Same H' H4 := (s2.trans (same_upd hq)).trans s4
        have t4 : TL H4 Ln := (t2.same (same_upd hq)).same s4
        have hlen : Ln.length ≤ 81 := by
          have h1 := congrArg List.length q2
          have h2 := (List.getElem?_eq_some_iff.mp hp).1
          simp only [List.length_map, List.length_take] at h1
          omega
        refine ⟨_, e4, small1000 (by rw [len_refs]; omega), fun b' o hb' => ?_, Ln ++ [(r, toI m ++ [(d : Int) - (toI m).sum])], ?_, fun y hy => ?_, ?_⟩
        · rw [upd_ne (ne_of_none hb' hD)]
          exact s5 b' o hb'
        · rw [upd_same]; simp [refs]
        · rcases List.mem_append.mp hy with hy | hy
          · rw [upd_ne (refs_tup_ne e4 (t4 y hy))]
            exact t4 y hy
          · simp at hy; subst hy
            rw [upd_ne (refs_tup_ne e4 h4)]
            exact h4
        · rw [List.map_append, q2, List.take_add_one, hm, List.map_append (l₂ := Option.toList _), List.map_append]
          congr 1
          simp only [Option.toList_some, List.map_cons, List.map_nil, toI_app, toI_sum]
          simp [toI]
          omega
      · rintro H2 ⟨s2, Ln, e2, t2, q2⟩
        have hlen : (refs Lb).length = (LA.stg d (n - 1)).length := by
          rw [len_refs]
          have := congrArg List.length q1
          simpa using this
        rw [hlen, List.take_length, LA.stg_monos hn] at q2
        exact k H2 D Ln (s1.trans s2) (s1.free hD) e2 t2 q2
end LF
end
section
set_option maxRecDepth 100000
set_option maxHeartbeats 4000000
namespace LF
open PySem PySem.Spec PyProof.Rows L2
variable {P : Program} {w : World} {K : PySem.W.Frag} {mg : Str → Option Value} {base : Heap}
theorem catG {H : Hp} {a b : Addr} {xs ys : List V} {Q : VK} (ha : H a = some (.tup xs)) (hb : H b = some (.tup ys)) (hl : xs.length + ys.length ≤ 1000)
    (k : ∀ (H' : Hp) (p : Addr), Same H H' → H' p = some (.tup (xs ++ ys)) → Q (.ref p) H') : rCatA K (.ref a) (.ref b) H Q := by
  refine ⟨a, b, _, _, rfl, rfl, SqT.of ha, SqT.of hb, Nat.le_of_lt (small1000 hl), fun e => ?_, fun _ e => ?_, fun _ _ p hp => ?_⟩
  · subst e
    exact k H b (Same.refl _) hb
  · subst e
    exact k H a (Same.refl _) (by rw [List.append_nil]; exact ha)
  · exact k _ p (same_upd hp) upd_same
theorem sliceG {H : Hp} {a : Addr} {xs : List V} {lo hi : Option Int} {Q : VK} (ha : H a = some (.tup xs))
    (k : ∀ (H' : Hp) (p : Addr), Same H H' → H' p = some (.tup (cutV xs lo hi)) → Q (.ref p) H') : rSlA K (.ref a) lo hi H Q := by
  refine ⟨a, _, rfl, SqT.of ha, fun e => ?_, fun _ p hp => k _ p (same_upd hp) upd_same⟩
  refine k H a (Same.refl _) ?_
  unfold cutV
  rw [e.1, e.2, Nat.sub_zero, List.drop_zero, List.take_length]
  exact ha
abbrev sWm : Stmt := top 12
def NWm : List Str := ["monomial", "i", "more"]
theorem scWm : FnScope NWm ["monomial", "i", "more"] (defScope sWm) := ⟨rfl, rfl, rfl, by decide +kernel, rfl, by decide +kernel, by decide +kernel⟩
/-- with_more -/
def spWm : Sp := fun vs H Q _ => ∃ (a : Addr) (t : List Int) (i : Nat) (z : Int), vs = [.ref a, .int i, .int z] ∧ H a = some (.tup (t.map V.int)) ∧ i < t.length ∧ t.length ≤ 10 ∧
  ∀ (H' : Hp) (p : Addr), Same H H' → H' p = some (.tup ((t.set i (t.getD i 0 + z)).map V.int)) → Q (.ref p) H'
theorem ok_wm {f : Addr} {fd : FuncData} (F : Fun K "with_more" "with_more" sWm f fd) (B : Bi mg) : FnOk P w K mg base CX0 1 f fd ["monomial", "i", "more"] spWm := by
  refine F.ok scWm (fun vs H Q E h => ?_) (fun cdv A outer s H vs Q E hr h => ?_)
  · obtain ⟨a, t, i, z, rfl, _⟩ := h
    rfl
  · have nd : NWm.Nodup := scWm.nd
    obtain ⟨a, t, i, z, rfl, ha, hi, h10, k⟩ := h
    refine ⟨_, pss_one (ps_ret (pe_op op_catA (pe_op op_catA (pe_slice sl_tupA (pv 0) po_none (po_some (pv 1))) (pe_tup (pa_cons (pe_op op_add (pe_ix (r := rIxT K) ix_tup (pv 0) (pv 1) (fun _ _ => rfl)) (pv 2)) pa_nil)))
      (pe_slice sl_tupA (pv 0) (po_some (pe_op op_add (pv 1) pe_int)) po_none))), ?_⟩
    have e1 : cutV (t.map V.int) none (some (i : Int)) = (t.take i).map V.int := by
      unfold cutV
      rw [HT.sIx_none, HT.sIx_nat, Nat.sub_zero, List.drop_zero, List.length_map, Nat.min_eq_left (by omega), List.map_take]
    have e2 : cutV (t.map V.int) (some ((i : Int) + 1)) none = (t.drop (i + 1)).map V.int := by
      unfold cutV
      rw [show ((i : Int) + 1) = ((i + 1 : Nat) : Int) by omega, HT.sIx_none, HT.sIx_nat, List.length_map, Nat.min_eq_left (by omega), List.map_drop, List.take_of_length_le (by simp)]
    refine ⟨_, rfl, _, rfl, _, rfl, ?_⟩
    refine sliceG (K := K) ha fun H1 p1 s1 h1 => ?_
    rw [e1] at h1
    refine ⟨_, rfl, _, rfl, a, _, _, _, rfl, rfl, SqT.of (s1 _ _ ha), at_of (j := i) rfl (getD_map hi), _, rfl, _, _, rfl, rfl, show 1 ≤ sizeLine by decide, fun p2 hp2 => ?_⟩
    have s2 := s1.trans (same_upd (o := .tup [.int (t.getD i 0 + z)]) hp2)
    refine catG (K := K) (by rw [upd_ne (ne_of_none h1 hp2)]; exact h1) upd_same (by simp; omega) fun H3 p3 s3 h3 => ?_
    have s4 := s2.trans s3
    refine ⟨_, rfl, _, rfl, _, _, rfl, rfl, _, rfl, ?_⟩
    simp only [tNoPart]
    refine sliceG (K := K) (s4 _ _ ha) fun H5 p5 s5 h5 => ?_
    rw [e2] at h5
    refine catG (K := K) (s5 _ _ h3) h5 (by simp; omega) fun H6 p6 s6 h6 => ?_
    refine k H6 p6 ((s4.trans s5).trans s6) ?_
    rw [h6, List.set_eq_take_append_cons_drop, if_pos hi]
    simp
abbrev sFu : Stmt := top 13
def NFu : List Str := ["monomial", "i"]
theorem scFu : FnScope NFu ["monomial"] (defScope sFu) := ⟨rfl, rfl, rfl, by decide +kernel, rfl, by decide +kernel, by decide +kernel⟩
/-- the first unknown that a monomial has -/
def fst0 (m : List Nat) : Nat := m.findIdx fun k => decide (k ≠ 0)
theorem fst0_lt {m : List Nat} (h : 0 < m.sum) : fst0 m < m.length := by
  unfold fst0
  rw [List.findIdx_lt_length]
  false_or_by_contra
  rename_i hn
  have h0 : ∀ k ∈ m, k = 0 := fun k hk => by
    false_or_by_contra
    rename_i h2
    exact hn ⟨k, hk, by simp [h2]⟩
  have : ∀ l : List Nat, (∀ k ∈ l, k = 0) → l.sum = 0 := fun l => by
    induction l with
    | nil => intro _; rfl
    | cons a l ih => intro hl; rw [List.sum_cons, hl a (by simp), ih fun k hk => hl k (by simp [hk])]
  rw [this m h0] at h
  omega
theorem fst0_at {m : List Nat} (h : 0 < m.sum) : m.getD (fst0 m) 0 ≠ 0 := by
  have hl := fst0_lt h
  have := List.findIdx_getElem (p := fun k : Nat => decide (k ≠ 0)) (xs := m) (w := hl)
  simp only [decide_eq_true_eq] at this
  rw [List.getD_eq_getElem?_getD, List.getElem?_eq_getElem hl]
  exact this
theorem fst0_before {m : List Nat} {i : Nat} (h : i < fst0 m) : m.getD i 0 = 0 := by
  unfold fst0 at h
  have hl : i < m.length := Nat.lt_of_lt_of_le h List.findIdx_le_length
  have := List.not_of_lt_findIdx h
  simp at this
  rw [List.getD_eq_getElem?_getD, List.getElem?_eq_getElem hl]
  exact this
theorem toI_at (m : List Nat) (i : Nat) : (toI m).getD i 0 = (m.getD i 0 : Nat) := by
  simp only [toI, List.getD_eq_getElem?_getD, List.getElem?_map]
  cases m[i]? <;> rfl
/-- first_unknown -/
def spFu : Sp := fun vs H Q _ => ∃ (a : Addr) (m : List Nat), vs = [.ref a] ∧ H a = some (.tup ((toI m).map V.int)) ∧ 0 < m.sum ∧ Q (.int (fst0 m : Nat)) H
theorem ok_fu {f : Addr} {fd : FuncData} (F : Fun K "first_unknown" "first_unknown" sFu f fd) (B : Bi mg) : FnOk P w K mg base CX0 1 f fd ["monomial"] spFu := by
  refine F.ok scFu (fun vs H Q E h => ?_) (fun cdv A outer s H vs Q E hr h => ?_)
  · obtain ⟨a, m, rfl, _⟩ := h
    rfl
  · have nd : NFu.Nodup := scFu.nd
    obtain ⟨a, m, rfl, ha, hm, k⟩ := h
    have hl := fst0_lt hm
    refine ⟨_, pss_cons (ps_set (i := 1) nd rfl (Or.inl rfl) pe_int)
      (pss_cons (ps_while PassesOwn.never (pt_cmpR op_eq (pe_ix (r := rIxT K) ix_tup (pv 0) (pv 1) (fun _ _ => rfl)) pe_int (nomark _)) (pss_one (ps_aug (i := 1) nd rfl (Or.inl rfl) pe_int ip_add)))
      (pss_one (ps_ret (pv 1)))), ?_⟩
    refine ⟨fun q σ H' => ∃ i : Nat, q = m.length - i ∧ σ = [some (.ref a), some (.int i)] ∧ H' = H ∧ i ≤ fst0 m, ⟨m.length, 0, rfl, rfl, rfl, Nat.zero_le _⟩, ?_⟩
    rintro q σ H' ⟨i, rfl, rfl, rfl, hi⟩
    refine ⟨_, rfl, _, rfl, a, _, _, _, rfl, rfl, SqT.of ha, at_of (j := i) rfl (getD_map (by rw [toI_len]; omega)), rfl, _, rfl, ?_⟩
    rw [toI_at]
    by_cases c : i < fst0 m
    · refine ifT (by rw [fst0_before c]; simp) ?_
      refine ⟨fun σ' H2 => σ' = [some (.ref a), some (.int ((i + 1 : Nat) : Int))] ∧ H2 = H', ?_, ?_⟩
      · rintro σ' H2 ⟨rfl, rfl⟩
        exact ⟨m.length - (i + 1), by omega, i + 1, rfl, rfl, rfl, c⟩
      · exact ⟨_, rfl, _, _, rfl, rfl, rfl, rfl⟩
    · have e : i = fst0 m := by omega
      subst e
      refine ifF (decide_eq_false fun z => fst0_at hm (by injection z with z; exact_mod_cast z)) ?_
      exact ⟨_, rfl, k⟩
end LF
end
section
set_option maxRecDepth 100000
set_option maxHeartbeats 4000000
namespace LF
open PySem PySem.Spec PyProof.Rows L2
variable {P : Program} {w : World} {K : PySem.W.Frag} {mg : Str → Option Value} {base : Heap}
/-- a monomial as a key -/
def mkey (m : List Nat) : List Key := (toI m).map Sum.inl
theorem mkeyV (m : List Nat) : (mkey m).map kV = (toI m).map V.int := keyV _
theorem toI_inj {a b : List Nat} (h : toI a = toI b) : a = b := by
  unfold toI at h
  have := congrArg (List.map Int.toNat) h
  rw [List.map_map, List.map_map] at this
  have e : ∀ l : List Nat, l.map (Int.toNat ∘ fun (k : Nat) => (k : Int)) = l := fun l => (List.map_congr_left (g := fun i => i) fun _ _ => by simp).trans (by simp)
  rw [e, e] at this
  exact this
theorem mkey_inj {a b : List Nat} (h : mkey a = mkey b) : a = b := toI_inj (inl_inj h)
/-- a polynomial as a dict -/
def kd (D : LA.DP) : List (List Key × V) := D.map fun p => (mkey p.1, V.int p.2)
theorem kd_val (D : LA.DP) (m : List Nat) : (valV (kd D) (mkey m)).getD (.int 0) = .int (LA.dget D m) ∧ ((valV (kd D) (mkey m)).isSome = true ↔ m ∈ D.map (·.1)) := by
  induction D with
  | nil => exact ⟨rfl, by simp [kd, valV]⟩
  | cons p D ih =>
    unfold kd at ih ⊢
    rw [List.map_cons, LA.dget_cons]
    by_cases c : p.1 = m
    · rw [valV_pos (by rw [c]), if_pos c]
      exact ⟨rfl, by simp [c]⟩
    · rw [valV_neg (fun z => c (mkey_inj z)), if_neg c]
      refine ⟨ih.1, ih.2.trans ?_⟩
      simp only [List.map_cons, List.mem_cons]
      exact ⟨Or.inr, fun h => h.resolve_left fun z => c z.symm⟩
theorem kd_some {D : LA.DP} {m : List Nat} (h : m ∈ D.map (·.1)) : valV (kd D) (mkey m) = some (.int (LA.dget D m)) := by
  obtain ⟨h1, h2⟩ := kd_val D m
  cases e : valV (kd D) (mkey m) with
  | none =>
    rw [e] at h2
    exact absurd (h2.mpr h) (by simp)
  | some v =>
    rw [e] at h1
    exact congrArg some h1
theorem kd_put (D : LA.DP) (m : List Nat) (c : Int) : putK (kd D) (mkey m) (.int c) = kd (LA.dput D m c) := by
  unfold putK LA.dput
  have e : ((kd D).any fun kv => decide (kv.1 = mkey m)) = (D.any fun p => decide (p.1 = m)) := by
    unfold kd
    rw [List.any_map]
    congr 1
    funext p
    show decide (mkey p.1 = mkey m) = decide (p.1 = m)
    exact decide_eq_decide.mpr ⟨mkey_inj, fun h => by rw [h]⟩
  rw [e]
  split
  · unfold kd
    rw [List.map_map, List.map_map]
    apply List.map_congr_left
    intro p _
    show (if mkey p.1 = mkey m then (mkey p.1, V.int c) else (mkey p.1, V.int p.2)) = _
    by_cases q : p.1 = m
    · rw [if_pos (by rw [q])]
      simp [q]
    · rw [if_neg fun z => q (mkey_inj z)]
      simp [q]
  · unfold kd
    rw [List.map_append]
    rfl
theorem toI_bump (m : List Nat) (i : Nat) : (toI m).set i ((toI m).getD i 0 + 1) = toI (LA.bump m i) := by
  rw [toI_at]
  unfold LA.bump toI
  rw [List.map_set]
  rfl
theorem dget_own : ∀ {D : LA.DP} {p : List Nat × Int}, (D.map (·.1)).Nodup → p ∈ D → LA.dget D p.1 = p.2
  | [], p, _, h => by simp at h
  | q :: D, p, hn, h => by
    have hn2 := List.nodup_cons.mp (show (q.1 :: D.map (·.1)).Nodup from hn)
    rw [LA.dget_cons]
    rcases List.mem_cons.mp h with e | h
    · rw [e, if_pos rfl]
    · rw [if_neg (fun z => hn2.1 (by rw [z]; exact List.mem_map.mpr ⟨p, h, rfl⟩)), dget_own hn2.2 h]
theorem dput_len (D : LA.DP) (m : List Nat) (c : Int) : (LA.dput D m c).length ≤ D.length + 1 := by
  unfold LA.dput
  split <;> simp
theorem fold_len (row : List Int) (p : List Nat × Int) : ∀ (l : List Nat) (A : LA.DP), (l.foldl (fun A i => LA.dadd A (LA.bump p.1 i) (p.2 * row.getD i 0)) A).length ≤ A.length + l.length
  | [], A => by simp
  | i :: l, A => by
    have h1 := fold_len row p l (LA.dadd A (LA.bump p.1 i) (p.2 * row.getD i 0))
    have h2 := dput_len A (LA.bump p.1 i) (LA.dget A (LA.bump p.1 i) + p.2 * row.getD i 0)
    rw [List.foldl_cons, List.length_cons]
    have : (LA.dadd A (LA.bump p.1 i) (p.2 * row.getD i 0)).length ≤ A.length + 1 := h2
    omega
theorem fold2_len (row : List Int) : ∀ (D A : LA.DP), (D.foldl (LA.trow1 row) A).length ≤ A.length + D.length * row.length
  | [], A => by simp
  | p :: D, A => by
    have h1 := fold2_len row D (LA.trow1 row A p)
    have h2 := fold_len row p (LA.someOf row) A
    have h4 := LA.some_len row
    have h3 : (LA.trow1 row A p).length ≤ A.length + row.length := by
      unfold LA.trow1
      omega
    rw [List.foldl_cons, List.length_cons, Nat.add_mul]
    omega
/-- the places that are not 0, as far as k -/
def someK (row : List Int) (k : Nat) : List Nat := (List.range k).filter fun i => decide (row.getD i 0 ≠ 0)
theorem someK_succ (row : List Int) (k : Nat) : someK row (k + 1) = if row.getD k 0 = 0 then someK row k else someK row k ++ [k] := by
  unfold someK
  rw [List.range_succ, List.filter_append]
  by_cases c : row.getD k 0 = 0
  · rw [if_pos c, List.filter_cons, if_neg (by rw [decide_eq_true_eq]; exact fun h => h c), List.filter_nil, List.append_nil]
  · rw [if_neg c, List.filter_cons, if_pos (decide_eq_true c), List.filter_nil]
theorem someK_len (row : List Int) (k : Nat) : (someK row k).length ≤ k := by
  have := List.length_filter_le (fun i => decide (row.getD i 0 ≠ 0)) (List.range k)
  rw [List.length_range] at this
  exact this
abbrev sTw : Stmt := top 14
def NTw : List Str := ["polynomial", "row", "product", "some", "monomial", "i", "raised"]
theorem scTw : FnScope NTw ["polynomial", "row"] (defScope sTw) := ⟨rfl, rfl, rfl, by decide +kernel, rfl, by decide +kernel, by decide +kernel⟩
/-- times_row -/
def spTw : Sp := fun vs H Q _ => ∃ (pd ra : Addr) (D : LA.DP) (row : List Int), vs = [.ref pd, .ref ra] ∧ H pd = some (.dT (kd D)) ∧ H ra = some (.tup (row.map V.int)) ∧ (∀ p ∈ D, p.1.length = row.length ∧ p.2.natAbs < 2 ^ 400000) ∧ Bd 400000 row ∧ row.length ≤ 10 ∧ D.length ≤ 50 ∧ (D.map (·.1)).Nodup ∧
  ∀ (H' : Hp) (p : Addr), Same H H' → H p = none → H' p = some (.dT (kd (LA.timesRow D row))) → Q (.ref p) H'
theorem ok_tw {f : Addr} {fd : FuncData} (F : Fun K "times_row" "times_row" sTw f fd) (B : Bi mg) (cW : Cal P w K mg base "with_more" 1 ["monomial", "i", "more"] spWm) : FnOk P w K mg base CX0 2 f fd ["polynomial", "row"] spTw := by
  refine F.ok scTw (fun vs H Q E h => ?_) (fun cdv A outer s H vs Q E hr h => ?_)
  · obtain ⟨pd, ra, D, row, rfl, _⟩ := h
    rfl
  · have nd : NTw.Nodup := scTw.nd
    have hu := hu_of hr
    obtain ⟨pd, ra, D, row, rfl, hp, hra, hD, br, hr10, hD50, hnd, k⟩ := h
    refine ⟨_, pss_cons (ps_set (i := 2) nd rfl (Or.inl rfl) pe_dnewT)
      (pss_cons (ps_setLc (i := 3) (own := [("i", 5)]) (g := gName 5) rfl nd rfl rfl (sw_true rfl rfl rfl (by decide +kernel)) (pi_range1 (by rfl) B.range (pa_cons (pe_callB call_len_seq (by rfl) B.len PySem.boot_len (pa_cons (pv 1) pa_nil)) pa_nil))
          (blkOk_by (N := NTw) (sc := defScope sTw) (by decide +kernel)) (fun _ _ _ _ _ => pg_name (i := 5) nd rfl (Or.inl rfl)) (fun _ _ _ _ _ => pts_one (pt_cmpR op_ne (pe_ix (r := rIxT K) ix_tup (pv 1) (pv 5) (fun _ _ => rfl)) pe_int (nomark _)))
          (fun _ _ _ _ _ => pv 5))
      (pss_cons (ps_lock (ps_for PassesOwn.never rfl (pi_keys (pv 0)) (pg_name (i := 4) nd rfl (Or.inl rfl))
        (pss_one (ps_for PassesOwn.never rfl (pi_list (pv 3)) (pg_name (i := 5) nd rfl (Or.inl rfl))
          (pss_cons (ps_set (i := 6) nd rfl (Or.inl rfl) (pe_call cW.ok hr (by rfl) cW.mgx cW.kp cW.b .nil pass0 (pa_cons (pv 4) (pa_cons (pv 5) (pa_cons pe_int pa_nil)))))
          (pss_one (ps_dput hu (pv 2) (pv 6) (pe_op op_add (pe_dget2 hu (pv 2) (pv 6) pe_int ⟨rfl, rfl, rfl, rfl⟩) (pe_op op_mulW (pe_dget hu (pv 0) (pv 4) (fun _ _ => rfl)) (pe_ix (r := rIxT K) ix_tup (pv 1) (pv 5) (fun _ _ => rfl)))) rfl)))))))
      (pss_one (ps_ret (pv 2))))), ?_⟩
    intro pr hpr
    have hpp : pd ≠ pr := ne_of_none hp hpr
    have s00 : Same H (upd H pr (.dT [])) := same_upd hpr
    -- the places that are not 0
    refine ⟨_, rfl, ra, _, rfl, .inr (SqT.of (s00 _ _ hra)), _, rfl, by omega, by simp; omega, ?_⟩
    rw [List.length_map, Int.toNat_natCast]
    intro sd hsd
    refine lc_range (lo := 0) (fun i H2 => Same (upd H pr (.dT [])) H2 ∧ H2 sd = some (.lst ((someK row i).map fun (j : Nat) => V.int (j : Int)))) ⟨same_upd hsd, by rw [upd_same]; rfl⟩ ?_ ?_
    · rintro i H2 hi ⟨s2, e2⟩
      refine ⟨rfl, ?_⟩
      refine ⟨_, rfl, _, rfl, ra, _, _, _, rfl, rfl, SqT.of (s2 _ _ (s00 _ _ hra)), at_of (j := i) (by omega) (getD_map hi), rfl, _, rfl, ?_⟩
      have eS := someK_succ row i
      by_cases c : row.getD i 0 = 0
      · refine ifF (by rw [c]; simp) ?_
        rw [if_pos c] at eS
        rw [eS]
        exact ⟨s2, e2⟩
      · refine ifT (by show (!decide (V.int (row.getD i 0) = V.int 0)) = true; rw [decide_eq_false (fun z => c (V.int.inj z))]; rfl) ?_
        rw [if_neg c] at eS
        have := someK_len row i
        refine ⟨_, rfl, _, e2, small1000 (by rw [List.length_map]; omega), fun b o hb => ?_, ?_⟩
        · rw [upd_ne (ne_of_none hb hsd)]
          exact s2 b o hb
        · rw [upd_same, eS, List.map_append]
          simp
    rintro H1 ⟨s1', e1'⟩
    have s0 : Same H H1 := s00.trans s1'
    have hsp : sd ≠ pr := (ne_of_none upd_same hsd).symm
    have hp1 : H1 pd = some (.dT (kd D)) := s0 _ _ hp
    have hpr1 : H1 pr = some (.dT []) := s1' _ _ upd_same
    have hspd : sd ≠ pd := fun z => by rw [z, hp1] at e1'; cases e1'
    have eSo : someK row row.length = LA.someOf row := rfl
    rw [eSo] at e1'
    refine ⟨pd, .dT (kd D), hp1, trivial, fun od => ?_⟩
    generalize hHf : upd H1 pd (.frz od (.dT (kd D))) = Hf
    have hf1 : Hf pd = some (.frz od (.dT (kd D))) := by rw [← hHf]; exact upd_same
    have hf2 : Hf pr = some (.dT []) := by rw [← hHf, upd_ne (fun z => hpp z.symm)]; exact hpr1
    have hf3 : ∀ b o, H1 b = some o → b ≠ pd → Hf b = some o := fun b o hb hne => by rw [← hHf, upd_ne hne]; exact hb
    have hrp : ra ≠ pd := fun z => by rw [z, hp] at hra; cases hra
    refine ⟨_, rfl, pd, od, rfl, .inr ⟨kd D, hf1, ?_⟩⟩
    refine for_it walk_keysT (fun a σ H2 => ∃ v4 v5 v6, σ = [some (.ref pd), some (.ref ra), some (.ref pr), some (.ref sd), v4, v5, v6] ∧ (∀ b o, Hf b = some o → b ≠ pr → H2 b = some o) ∧ H2 pr = some (.dT (kd ((D.take a).foldl (LA.trow1 row) []))))
      ⟨none, none, none, rfl, fun b o hb _ => hb, hf2⟩ (fun a σ H2 _ ⟨_, _, _, _, s1, _⟩ => s1 _ _ hf1 hpp) ?_ ?_
    · rintro a x σ H2 H2' ha ⟨v4, v5, v6, rfl, s1, e1⟩ ⟨rfl, kk, vv, q, hkv, rfl, hq⟩
      have haD : a < D.length := by simpa [kd] using ha
      obtain ⟨p, hpa⟩ : ∃ p, D[a]? = some p := ⟨_, List.getElem?_eq_getElem haD⟩
      have hpm := List.mem_of_getElem? hpa
      have ek : kk = mkey p.1 ∧ vv = .int p.2 := by
        unfold kd at hkv
        rw [List.getElem?_map, hpa] at hkv
        have := Option.some.inj hkv
        exact ⟨(congrArg Prod.fst this).symm, (congrArg Prod.snd this).symm⟩
      obtain ⟨rfl, rfl⟩ := ek
      rw [mkeyV] at hq
      have hqr : q ≠ pr := fun z => by rw [z, e1] at hq; cases hq
      have hlenA : ((D.take a).foldl (LA.trow1 row) []).length ≤ 500 := by
        have := fold2_len row (D.take a) []
        have h2 : (D.take a).length ≤ 50 := by rw [List.length_take]; omega
        have : (D.take a).length * row.length ≤ 50 * 10 := Nat.mul_le_mul h2 hr10
        simp at *
        omega
      generalize hA0 : (D.take a).foldl (LA.trow1 row) [] = A0 at e1 hlenA
      have hrr : ra ≠ pr := fun z => by rw [z, hpr] at hra; cases hra
      have hra2 : H2' ra = some (.tup (row.map V.int)) := s1 _ _ (hf3 _ _ (s0 _ _ hra) hrp) hrr
      have hsd2 : H2' sd = some (.lst ((LA.someOf row).map fun (j : Nat) => V.int (j : Int))) := s1 _ _ (hf3 _ _ e1' hspd) hsp
      refine ⟨_, rfl, sd, rfl, ⟨_, SqL.of hsd2⟩, ?_⟩
      refine for_list (K := K) (a := sd) (xs := (LA.someOf row).map fun (j : Nat) => V.int (j : Int)) (fun j σ H3 => ∃ v5 v6, σ = [some (.ref pd), some (.ref ra), some (.ref pr), some (.ref sd), some (.ref q), v5, v6] ∧ (∀ b o, H2' b = some o → b ≠ pr → H3 b = some o) ∧ H3 pr = some (.dT (kd (((LA.someOf row).take j).foldl (fun A i => LA.dadd A (LA.bump p.1 i) (p.2 * row.getD i 0)) A0))))
        ⟨v5, v6, rfl, fun b o hb _ => hb, e1⟩ (fun j σ H3 _ ⟨_, _, _, s3, _⟩ => SqL.of (s3 _ _ hsd2 hsp)) ?_ ?_
      · rintro j' x σ H3 hx ⟨v5, v6, rfl, s3, e3⟩
        obtain ⟨j, hj', rfl⟩ : ∃ j : Nat, (LA.someOf row)[j']? = some j ∧ V.int (j : Int) = x := by
          rw [List.getElem?_map] at hx
          cases q : (LA.someOf row)[j']? with
          | none => rw [q] at hx; cases hx
          | some z => rw [q] at hx; exact ⟨z, rfl, Option.some.inj hx⟩
        have hj : j < row.length := (LA.some_lt (List.mem_of_getElem? hj')).1
        have hlen3 := fold_len row p ((LA.someOf row).take j') A0
        have hlen4 : ((LA.someOf row).take j').length ≤ 10 := by
          have := LA.some_len row
          rw [List.length_take]
          omega
        rw [List.take_add_one, hj', Option.toList_some, List.foldl_append]
        generalize ((LA.someOf row).take j').foldl (fun A i => LA.dadd A (LA.bump p.1 i) (p.2 * row.getD i 0)) A0 = A1 at e3 hlen3
        refine ⟨_, rfl, _, rfl, q, toI p.1, j, 1, rfl, s3 _ _ hq hqr, by rw [toI_len, (hD p hpm).1]; exact hj, by rw [toI_len, (hD p hpm).1]; exact hr10, fun H4 rr s4 h4 => ?_⟩
        rw [toI_bump] at h4
        have e4 := s4 _ _ e3
        have hra4 : H4 ra = some (.tup (row.map V.int)) := s4 _ _ (s3 _ _ hra2 hrr)
        have hq4 : H4 q = some (.tup ((toI p.1).map V.int)) := s4 _ _ (s3 _ _ hq hqr)
        have hp4 : H4 pd = some (.frz od (.dT (kd D))) := s4 _ _ (s3 _ _ (s1 _ _ hf1 hpp) hpp)
        refine ⟨_, rfl, pr, rfl, .inr ⟨_, .inl e4⟩, _, rfl, _, DGet.t (k := mkey (LA.bump p.1 j)) e4 (by rw [mkeyV]; exact h4), ?_⟩
        refine ⟨_, rfl, _, rfl, pd, .int (LA.dget D p.1), rfl, .inr ⟨kd D, mkey p.1, q, .inr ⟨od, hp4⟩, rfl, by rw [mkeyV]; exact hq4, (kd_some (List.mem_map.mpr ⟨p, hpm, rfl⟩)).symm⟩, ?_⟩
        refine ⟨_, rfl, _, rfl, ra, _, _, _, rfl, rfl, SqT.of hra4, at_of (j := j) rfl (getD_map hj), ?_⟩
        have hdg : LA.dget D p.1 = p.2 := dget_own hnd hpm
        rw [hdg]
        refine ⟨_, _, rfl, rfl, wide_mul (hD p hpm).2 (br.at (by decide) j) (by decide) (by decide) (by decide), ?_⟩
        refine ⟨_, _, (kd_val _ _).1, rfl, ?_⟩
        refine ⟨_, rfl, _, rfl, pr, _, rfl, DPut.t (k := mkey (LA.bump p.1 j)) e4 (by rw [mkeyV]; exact h4) (small1000 (by simp [kd]; omega)), ?_⟩
        rw [kd_put]
        refine ⟨some (.int j), some (.ref rr), rfl, fun b o hb hne => ?_, ?_⟩
        · rw [upd_ne hne]
          exact s4 _ _ (s3 _ _ hb hne)
        · rw [upd_same]
          rfl
      · rintro σ H3 ⟨v5, v6, rfl, s3, e3⟩
        rw [List.length_map, List.take_length] at e3
        refine ⟨some (.ref q), v5, v6, rfl, fun b o hb hne => s3 _ _ (s1 _ _ hb hne) hne, ?_⟩
        have et : D.take (a + 1) = D.take a ++ [p] := by rw [List.take_add_one, hpa]; rfl
        rw [e3, et, List.foldl_append, hA0]
        rfl
    · rintro σ H2 ⟨v4, v5, v6, rfl, s1, e1⟩
      have hl : (kd D).length = D.length := by simp [kd]
      rw [hl, List.take_length] at e1
      refine ⟨s1 _ _ hf1 hpp, _, rfl, ?_⟩
      refine k _ pr (fun b o hb => ?_) hpr ?_
      · by_cases c : b = pd
        · subst c
          rw [upd_same, ← hp, hb]
        · rw [upd_ne c]
          exact s1 _ _ (hf3 b o (s0 _ _ hb) c) (ne_of_none hb hpr)
      · rw [upd_ne (fun z => hpp z.symm)]
        exact e1
end LF
end
section
set_option maxRecDepth 100000
set_option maxHeartbeats 4000000
namespace LF
open PySem PySem.Spec PyProof.Rows L2
variable {P : Program} {w : World} {K : PySem.W.Frag} {mg : Str → Option Value} {base : Heap}
def mdk (L : List (List Nat × Addr)) : List (List Key × V) := L.map fun p => (mkey p.1, V.ref p.2)
def MDL (H : Hp) (n : Nat) (t : List Int) (d : Nat) (L : List (List Nat × Addr)) : Prop := ∀ p ∈ L, H p.2 = some (.dT (kd (LA.mvd n t d p.1)))
theorem mdk_val : ∀ {L : List (List Nat × Addr)} {m : List Nat}, m ∈ L.map (·.1) → ∃ a, (m, a) ∈ L ∧ valV (mdk L) (mkey m) = some (.ref a)
  | [], m, h => by simp at h
  | p :: L, m, h => by
    unfold mdk
    rw [List.map_cons]
    by_cases c : p.1 = m
    · exact ⟨p.2, by simp [← c], valV_pos (by rw [c])⟩
    · have h2 : m ∈ L.map (·.1) := by
        have : m = p.1 ∨ m ∈ L.map (·.1) := by simpa using h
        exact this.resolve_left fun z => c z.symm
      obtain ⟨a, h3, h4⟩ := mdk_val h2
      exact ⟨a, List.mem_cons_of_mem _ h3, by rw [valV_neg (fun z => c (mkey_inj z))]; exact h4⟩
theorem mdk_new {L : List (List Nat × Addr)} {m : List Nat} (h : m ∉ L.map (·.1)) : valV (mdk L) (mkey m) = none := by
  induction L with
  | nil => rfl
  | cons p L ih =>
    unfold mdk at ih ⊢
    rw [List.map_cons]
    have h1 : ¬ p.1 = m := fun z => h (by simp [z])
    rw [valV_neg (fun z => h1 (mkey_inj z))]
    exact ih fun z => h (List.mem_cons_of_mem _ z)
theorem mvd_ok {n d : Nat} (hn : n = 2 ∨ n = 3) (hd : d ≤ 8) {t : List Int} (ht : t.length = n * n) (hB : ∀ z ∈ t, z.natAbs < 2 ^ 200) {m : List Nat} (hm : m ∈ Wp04.monos n d) :
    (∀ p ∈ LA.mvd n t d m, p.1.length = n ∧ p.2.natAbs < 2 ^ 400000) ∧ (LA.mvd n t d m).length ≤ 50 ∧ ((LA.mvd n t d m).map (·.1)).Nodup := by
  obtain ⟨⟨k1, k2⟩, _, k3⟩ := LA.mvd_facts hn ht (B := 2 ^ 200) (fun z hz => Nat.le_of_lt (hB z hz)) d m hm
  refine ⟨fun p hp => ⟨(LA.mem_monos.mp (k2 p hp)).1, ?_⟩, ?_, k1⟩
  · have h1 : p.2.natAbs ≤ LA.l1 (LA.mvd n t d m) := by
      clear k1 k2 k3
      generalize LA.mvd n t d m = D at hp
      induction D with
      | nil => simp at hp
      | cons q D ih =>
        simp only [LA.l1, List.map_cons, List.sum_cons] at ih ⊢
        rcases List.mem_cons.mp hp with e | e
        · rw [e]; omega
        · have := ih e; omega
    have h2 : (3 * 2 ^ 200) ^ d ≤ (3 * 2 ^ 200) ^ 8 := Nat.pow_le_pow_right (by decide) hd
    have h3 : (3 * 2 ^ 200) ^ 8 < 2 ^ 1700 := by decide +kernel
    have h4 : 2 ^ 1700 ≤ 2 ^ 400000 := Nat.pow_le_pow_right (by decide) (by decide)
    exact Nat.lt_of_le_of_lt (Nat.le_trans h1 (Nat.le_trans k3 h2)) (Nat.lt_of_lt_of_le h3 h4)
  · have := GC.nodup_sub (l := (LA.mvd n t d m).map (·.1)) (k := Wp04.monos n d) k1 fun x hx => by
      obtain ⟨p, hp, rfl⟩ := List.mem_map.mp hx
      exact k2 p hp
    have h2 := (LA.monos_small hn hd).2
    rw [List.length_map] at this
    omega
theorem rowOf_cut {n i : Nat} {t : List Int} (hi : i * n + n ≤ t.length) : cutV (t.map V.int) (some ((i : Int) * n)) (some ((i : Int) * n + n)) = (LA.rowOf n t i).map V.int := by
  unfold cutV LA.rowOf
  rw [show (i : Int) * n + n = ((i * n + n : Nat) : Int) by simp, show (i : Int) * n = ((i * n : Nat) : Int) by simp, HT.sIx_nat, HT.sIx_nat, List.length_map, Nat.min_eq_left (by omega), Nat.min_eq_left (by omega), Nat.add_sub_cancel_left, List.map_take, List.map_drop]
theorem rowOf_len {n i : Nat} {t : List Int} (hi : i * n + n ≤ t.length) : (LA.rowOf n t i).length = n := by
  unfold LA.rowOf
  rw [List.length_take, List.length_drop]
  omega
theorem toI_lower {m : List Nat} (h : 0 < m.sum) : (toI m).set (fst0 m) ((toI m).getD (fst0 m) 0 + -1) = toI (LA.lower m) := by
  have h1 := fst0_at h
  rw [toI_at]
  unfold LA.lower toI
  rw [List.map_set]
  show (List.map _ m).set (fst0 m) _ = (List.map _ m).set (fst0 m) _
  congr 1
  show ((m.getD (fst0 m) 0 : Nat) : Int) + -1 = ((m.getD (fst0 m) 0 - 1 : Nat) : Int)
  omega
abbrev sMm : Stmt := top 17
def NMm : List Str := ["n", "table", "d", "one", "moved", "degree", "higher", "monomial", "i", "lower"]
theorem scMm : FnScope NMm ["n", "table", "d"] (defScope sMm) := ⟨rfl, rfl, rfl, by decide +kernel, rfl, by decide +kernel, by decide +kernel⟩
/-- moved_monomials -/
def spMm : Sp := fun vs H Q _ => ∃ (n : Nat) (ta : Addr) (t : List Int) (d : Nat), vs = [.int n, .ref ta, .int d] ∧ (n = 2 ∨ n = 3) ∧ d ≤ 8 ∧ H ta = some (.tup (t.map V.int)) ∧ t.length = n * n ∧ (∀ z ∈ t, z.natAbs < 2 ^ 200) ∧
  ∀ (H' : Hp) (p : Addr) (L : List (List Nat × Addr)), Same H H' → H p = none → H' p = some (.dT (mdk L)) → MDL H' n t d L → L.map (·.1) = Wp04.monos n d → Q (.ref p) H'
theorem ok_mm {f : Addr} {fd : FuncData} (F : Fun K "moved_monomials" "moved_monomials" sMm f fd) (B : Bi mg) (cM : Cal P w K mg base "monomials" 1 ["n", "d"] spMo) (cF : Cal P w K mg base "first_unknown" 1 ["monomial"] spFu)
    (cW : Cal P w K mg base "with_more" 1 ["monomial", "i", "more"] spWm) (cT : Cal P w K mg base "times_row" 2 ["polynomial", "row"] spTw) : FnOk P w K mg base CX0 3 f fd ["n", "table", "d"] spMm := by
  refine F.ok scMm (fun vs H Q E h => ?_) (fun cdv A outer s H vs Q E hr h => ?_)
  · obtain ⟨n, ta, t, d, rfl, _⟩ := h
    rfl
  · have nd : NMm.Nodup := scMm.nd
    have hu := hu_of hr
    have hr1 : Room 1 _ := hr.mono (by decide)
    obtain ⟨n, ta, t, d, rfl, hn, hd, hta, lt, bt, k⟩ := h
    refine ⟨_, pss_cons (ps_set (i := 3) nd rfl (Or.inl rfl) (pe_op op_repT (pe_tup (pa_cons pe_int pa_nil)) (pv 0)))
      (pss_cons (ps_set (i := 4) nd rfl (Or.inl rfl) (pe_dispT (Nat.lt_of_succ_lt hu) (pv 3) (pe_dispT (Nat.lt_of_succ_lt hu) (pv 3) pe_int)))
      (pss_cons (ps_for PassesOwn.never rfl (pi_range2 (by rfl) B.range (pa_cons pe_int (pa_cons (pe_op op_add (pv 2) pe_int) pa_nil))) (pg_name (i := 5) nd rfl (Or.inl rfl))
        (pss_cons (ps_set (i := 6) nd rfl (Or.inl rfl) pe_dnewT)
        (pss_cons (ps_for PassesOwn.never rfl (pi_list (pe_call cM.ok hr1 (by rfl) cM.mgx cM.kp cM.b .nil pass0 (pa_cons (pv 0) (pa_cons (pv 5) pa_nil)))) (pg_name (i := 7) nd rfl (Or.inl rfl))
          (pss_cons (ps_set (i := 8) nd rfl (Or.inl rfl) (pe_call cF.ok hr1 (by rfl) cF.mgx cF.kp cF.b .nil pass0 (pa_cons (pv 7) pa_nil)))
          (pss_cons (ps_set (i := 9) nd rfl (Or.inl rfl) (pe_dget hu (pv 4) (pe_call cW.ok hr1 (by rfl) cW.mgx cW.kp cW.b .nil pass0 (pa_cons (pv 7) (pa_cons (pv 8) (pa_cons (pe_un un_neg pe_int) pa_nil)))) (fun _ _ => rfl)))
          (pss_one (ps_dput hu (pv 6) (pv 7) (pe_call cT.ok hr (by rfl) cT.mgx cT.kp cT.b .nil pass0 (pa_cons (pv 9) (pa_cons (pe_slice sl_tupA (pv 1) (po_some (pe_op op_mul (pv 8) (pv 0))) (po_some (pe_op op_add (pe_op op_mul (pv 8) (pv 0)) (pv 0)))) pa_nil))) rfl)))))
        (pss_one (ps_set (i := 4) nd rfl (Or.inl rfl) (pv 6))))))
      (pss_one (ps_ret (pv 4))))), ?_⟩
    -- one = (0,) * n
    refine ⟨show 1 ≤ sizeLine by decide, fun z0 hz0 => ?_⟩
    refine ⟨_, rfl, z0, (n : Int), _, rfl, rfl, SqT.of upd_same, by simp, by omega, by omega, by simp, fun o1 ho1 => ?_⟩
    have eo : (List.replicate ((n : Int)).toNat [V.int 0]).flatten = (toI (List.replicate n 0)).map V.int := by rcases hn with rfl | rfl <;> rfl
    rw [eo]
    have s1 : Same H (upd (upd H z0 (.tup [.int 0])) o1 (.tup ((toI (List.replicate n 0)).map V.int))) := (same_upd hz0).trans (same_upd ho1)
    generalize hH1 : upd (upd H z0 (.tup [.int 0])) o1 (.tup ((toI (List.replicate n 0)).map V.int)) = H1 at s1
    have h1 : H1 o1 = some (.tup ((toI (List.replicate n 0)).map V.int)) := by rw [← hH1]; exact upd_same
    -- moved = {one: {one: 1}}
    intro m0 hm0
    have ho : ∀ {Hx : Hp} {p : Addr} {o : HO}, Hx p = none → Hx o1 = some (.tup ((toI (List.replicate n 0)).map V.int)) → upd Hx p o o1 = some (.tup ((toI (List.replicate n 0)).map V.int)) := fun hp h => by rw [upd_ne (ne_of_none h hp)]; exact h
    refine ⟨_, rfl, fun i0 hi0 => ⟨_, rfl, upd_same, o1, mkey (List.replicate n 0), rfl, ?_, ?_⟩⟩
    · rw [mkeyV]
      exact ho hi0 (ho hm0 h1)
    · have hm0H : H m0 = none := s1.free hm0
      have him : i0 ≠ m0 := fun z => by rw [z, upd_same] at hi0; cases hi0
      have hi0H : H i0 = none := (s1.trans (same_upd hm0)).free hi0
      have ho2 : o1 ≠ i0 := ne_of_none (ho (o := .dT []) hm0 h1) hi0
      have hom : o1 ≠ m0 := ne_of_none h1 hm0
      refine ⟨?_, o1, mkey (List.replicate n 0), rfl, ?_, ?_⟩
      · rw [upd_ne (fun z => him z.symm), upd_ne (fun z => him z.symm)]
        exact upd_same
      · rw [mkeyV, upd_ne ho2, upd_ne ho2, upd_ne hom]
        exact h1
      generalize hH2 : upd (upd (upd (upd H1 m0 (.dT [])) i0 (.dT [])) i0 (.dT [(mkey (List.replicate n 0), .int 1)])) m0 (.dT [(mkey (List.replicate n 0), .ref i0)]) = H2
      have s2 : Same H H2 := fun b o hb => by
        rw [← hH2, upd_ne (ne_of_none hb hm0H), upd_ne (ne_of_none hb hi0H), upd_ne (ne_of_none hb hi0H), upd_ne (ne_of_none hb hm0H)]
        exact s1 b o hb
      refine ⟨_, rfl, _, _, rfl, rfl, (1 : Int), (d : Int) + 1, rfl, by omega, ?_⟩
      rw [show ((d : Int) + 1 - 1).toNat = d by omega]
      refine for_range (lo := 1) (n := d) (fun g σ H' => ∃ (mo : Addr) (L : List (List Nat × Addr)) (v5 v6 v7 v8 v9 : Option V), σ = [some (.int n), some (.ref ta), some (.int d), some (.ref o1), some (.ref mo), v5, v6, v7, v8, v9] ∧ Same H H' ∧ H mo = none ∧ H' mo = some (.dT (mdk L)) ∧ MDL H' n t g L ∧ L.map (·.1) = Wp04.monos n g)
        ⟨m0, [(List.replicate n 0, i0)], none, none, none, none, none, rfl, s2, hm0H, by rw [← hH2]; exact upd_same, fun p hp => ?_, by rw [LA.monos_zero]; rfl⟩ ?_ ?_
      · simp at hp; subst hp
        rw [← hH2, upd_ne him, upd_same]
        rfl
      · rintro g σ H' hg ⟨mo, L, v5, v6, v7, v8, v9, rfl, s3, hmo, e1, md, q1⟩
        intro hi hhi
        have hhiH : H hi = none := s3.free hhi
        have s4 : Same H (upd H' hi (.dT [])) := s3.trans (same_upd hhi)
        refine ⟨_, rfl, _, rfl, n, g + 1, ?_, hn, by omega, fun H3 lm Lm s5 hlm e3 t3 q3 => ?_⟩
        · show [V.int n, V.int (1 + g)] = _
          rw [show ((1 : Int) + g) = ((g + 1 : Nat) : Int) by omega]
        have s6 : Same H H3 := s4.trans s5
        have hLm : Lm.length ≤ 45 := by
          have h2 := congrArg List.length q3
          have h3 := (LA.monos_small hn (show g + 1 ≤ 8 by omega)).2
          rw [List.length_map, List.length_map] at h2
          omega
        have hat : ∀ (i : Nat) (p : Addr × List Int), Lm[i]? = some p → ∃ m, (Wp04.monos n (g + 1))[i]? = some m ∧ p.2 = toI m := fun i p hp => by
          have := congrArg (fun l => l[i]?) q3
          simp only [List.getElem?_map, hp] at this
          cases em : (Wp04.monos n (g + 1))[i]? with
          | none => rw [em] at this; cases this
          | some m => rw [em] at this; exact ⟨m, rfl, Option.some.inj this⟩
        have hih : mo ≠ hi := ne_of_none e1 hhi
        refine ⟨lm, rfl, ⟨_, SqL.of e3⟩, for_list (K := K) (a := lm) (xs := refs Lm) (fun i σ H4 => ∃ (Lh : List (List Nat × Addr)) (v7 v8 v9 : Option V), σ = [some (.int n), some (.ref ta), some (.int d), some (.ref o1), some (.ref mo), some (.int (1 + g)), some (.ref hi), v7, v8, v9] ∧
          (∀ b o, H3 b = some o → b ≠ hi → H4 b = some o) ∧ H4 hi = some (.dT (mdk Lh)) ∧ MDL H4 n t (g + 1) Lh ∧ (∀ y ∈ Lh, y.2 ≠ hi) ∧ Lh.map (·.1) = (Wp04.monos n (g + 1)).take i)
          ⟨[], v7, v8, v9, rfl, fun b o hb _ => hb, s5 _ _ upd_same, by simp [MDL], by simp, rfl⟩ (fun i σ H4 _ ⟨_, _, _, _, _, s7, _⟩ => SqL.of (s7 _ _ e3 (fun z => by rw [z, upd_same] at hlm; cases hlm))) ?_ ?_⟩
        · rintro i x σ H4 hx ⟨Lh, v7, v8, v9, rfl, s7, e4, md4, hne4, q4⟩
          obtain ⟨p, hp, rfl⟩ := refs_at hx
          obtain ⟨m, hm, em⟩ := hat i p hp
          have hmm := List.mem_of_getElem? hm
          obtain ⟨ml, ms⟩ := LA.mem_monos.mp hmm
          have hsum : 0 < m.sum := by omega
          have hfl := fst0_lt hsum
          have hpt : H4 p.1 = some (.tup ((toI m).map V.int)) := by
            have h3 := t3.at hp
            rw [em] at h3
            exact s7 _ _ h3 (fun z => by rw [z, s5 _ _ upd_same] at h3; cases h3)
          refine ⟨_, rfl, p.1, m, rfl, hpt, hsum, ?_⟩
          refine ⟨_, rfl, _, rfl, _, rfl, _, rfl, p.1, toI m, fst0 m, -1, rfl, hpt, by rw [toI_len]; exact hfl, by rw [toI_len, ml]; omega, fun H5 lw s8 h8 => ?_⟩
          rw [toI_lower hsum] at h8
          have hlow : LA.lower m ∈ L.map (·.1) := by rw [q1]; exact LA.lower_mem hmm
          obtain ⟨av, hav, hval⟩ := mdk_val hlow
          have lift : ∀ b o, H' b = some o → H5 b = some o := fun b o hb => s8 _ _ (s7 _ _ (s5 _ _ (same_upd hhi _ _ hb)) (ne_of_none hb hhi))
          refine ⟨mo, .ref av, rfl, .inr ⟨mdk L, mkey (LA.lower m), lw, .inl (lift _ _ e1), rfl, by rw [mkeyV]; exact h8, hval.symm⟩, ?_⟩
          have hio : fst0 m * n + n ≤ t.length := by
            rw [lt]
            rw [ml] at hfl
            rcases hn with rfl | rfl <;> omega
          refine ⟨_, rfl, _, rfl, _, rfl, _, rfl, _, _, rfl, rfl, .inl ⟨by omega, by omega⟩, _, rfl, _, rfl, _, rfl, _, _, rfl, rfl, .inl ⟨by omega, by omega⟩, _, rfl, _, _, rfl, rfl, _, rfl, ?_⟩
          refine sliceG (K := K) (lift _ _ (s3 _ _ hta)) fun H6 rw6 s9 h9 => ?_
          rw [rowOf_cut hio] at h9
          obtain ⟨o1', o2', o3'⟩ := mvd_ok hn (show g ≤ 8 by omega) lt bt (LA.lower_mem hmm)
          refine ⟨av, rw6, LA.mvd n t g (LA.lower m), LA.rowOf n t (fst0 m), rfl, s9 _ _ (lift _ _ (md _ hav)), h9, fun q hq => ⟨by rw [(o1' q hq).1, rowOf_len hio], (o1' q hq).2⟩, fun z hz => ?_, by rw [rowOf_len hio]; omega, o2', o3', fun H7 r7 s10 hr7 h10 => ?_⟩
          · have := bt z (List.mem_of_mem_drop (List.mem_of_mem_take hz))
            exact Nat.lt_of_lt_of_le this (Nat.pow_le_pow_right (by decide) (by decide))
          have hr7h : r7 ≠ hi := fun z => by
            have e6 : H6 hi = some (.dT (mdk Lh)) := s9 _ _ (s8 _ _ e4)
            rw [← z, hr7] at e6
            cases e6
          have e7 : H7 hi = some (.dT (mdk Lh)) := s10 _ _ (s9 _ _ (s8 _ _ e4))
          have hpt7 : H7 p.1 = some (.tup ((toI m).map V.int)) := s10 _ _ (s9 _ _ (s8 _ _ hpt))
          have hLh : Lh.length ≤ 45 := by
            have h2 := congrArg List.length q4
            rw [List.length_map, List.length_take] at h2
            have := (LA.monos_small hn (show g + 1 ≤ 8 by omega)).2
            omega
          refine ⟨_, rfl, _, rfl, hi, _, rfl, DPut.t (k := mkey m) e7 (by rw [mkeyV]; exact hpt7) (small1000 (by simp [mdk]; omega)), ?_⟩
          have hnew : m ∉ Lh.map (·.1) := by
            rw [q4]
            intro hin
            obtain ⟨j, hj, ej⟩ := List.getElem_of_mem hin
            have hj2 : j < i := by simp at hj; omega
            have hnd := LA.nodup_monos n (g + 1)
            have e5 : (Wp04.monos n (g + 1))[j]? = some m := by
              rw [← ej, List.getElem_take]
              exact List.getElem?_eq_getElem _
            have := nd_ix hnd e5 hm
            omega
          rw [putK_new _ (mdk_new hnew)]
          refine ⟨Lh ++ [(m, r7)], some (.ref p.1), some (.int (fst0 m : Nat)), some (.ref av), rfl, fun b o hb hne => ?_, ?_, fun y hy => ?_, fun y hy => ?_, ?_⟩
          · rw [upd_ne hne]
            exact s10 _ _ (s9 _ _ (s8 _ _ (s7 _ _ hb hne)))
          · rw [upd_same]; simp [mdk]
          · rcases List.mem_append.mp hy with hy | hy
            · rw [upd_ne (hne4 y hy)]
              exact s10 _ _ (s9 _ _ (s8 _ _ (md4 y hy)))
            · rw [List.mem_singleton.mp hy, upd_ne hr7h]
              exact h10
          · rcases List.mem_append.mp hy with hy | hy
            · exact hne4 y hy
            · rw [List.mem_singleton.mp hy]
              exact hr7h
          · rw [List.map_append, q4, List.take_add_one, hm]
            rfl
        · rintro σ H4 ⟨Lh, v7, v8, v9, rfl, s7, e4, md4, hne4, q4⟩
          have hl : (refs Lm).length = (Wp04.monos n (g + 1)).length := by
            rw [len_refs]
            have := congrArg List.length q3
            simpa using this
          rw [hl, List.take_length] at q4
          refine ⟨_, rfl, hi, Lh, _, _, _, _, _, rfl, fun b o hb => s7 _ _ (s6 b o hb) (ne_of_none hb hhiH), hhiH, e4, md4, q4⟩
      · rintro σ H' ⟨mo, L, v5, v6, v7, v8, v9, rfl, s3, hmo, e1, md, q1⟩
        exact ⟨_, rfl, k H' mo L s3 hmo e1 md q1⟩
end LF
end
section
set_option maxRecDepth 100000
set_option maxHeartbeats 4000000
/-! the row's end, where // may be of numbers of any length: what is below knows that nobody watches a division -/
namespace LF
open PySem PySem.Spec PyProof.Rows L2
open PySem.W (OpenSpec Codec WData WellAll ReadsW ReadsAllW Well)
/-- the call of the row's def; the base bears NoSeer too -/
theorem call_seen {P : Program} {w : World} {K : PySem.W.Frag} {mg mb : Str → Option Value} {k : Nat} {fa : Addr} {fd : FuncData} {ps : List Str} {sp : Sp} {z : Shared} {us : List Value} {ds : List WData} {R : PySem.W.WRecords} {cl : Str → Option Addr} {d0 : WData}
    (inK : K.In z.heap) (nG : z.heap.Ns mainGlobals mg) (nB : z.heap.Ns builtinsNs mb) (nBb : ∀ x : Str, x ≠ "__name__" → mb x = bootBuiltins x) (lim : z.heap.NoLimit) (gens : z.gens = #[])
    (seer : z.heap.NoSeer) (modu : ∃ bm ob, mg "__builtins__" = some (.ref bm) ∧ bm ≠ builtinsNs ∧ z.heap.get? bm = some ob ∧ ob.cls = .type "module" ∧ ob.dict = some builtinsNs ∧ ob.data = .plain)
    (wl : WellAll w.params z.heap us ds) (pl : plWs ds = true) (wt : ∀ d ∈ ds, d.weight ≤ 1048576) (room : Room k callerA)
    (F : ∀ b : Heap, K.In b → b.Ns mainGlobals mg → b.NoSeer → FnOk P w K mg b CX0 k fa fd ps sp) (bind : ∀ (s : Shared) (vs : List Value), vs.length = ps.length → BindsTo s fd ⟨vs, []⟩ (ps.zip vs)) (len : ds.length = ps.length)
    (hsp : ∀ (H : Hp) (xs : List V), OnlyF H → DwAll K H xs ds → sp xs H (fun v H' => Dw K H' v d0) fun _ _ _ => False) :
    codeAny (model P w) callerA (.call (.ref fa) ⟨us, []⟩) (fun r s' => ∃ u as, r = .ok (.ret u) ∧ ReadsW R cl s'.heap u d0 as ∧ OldK z.heap s'.heap ∧ s'.os = z.os ∧ AllBare s'.gens) z := by
  obtain ⟨B, okU, arg⟩ := area_all ds us wl pl wt
  have only : OnlyF (argH K z.heap B) := argH_only arg
  have hok : HOk P w (argH K z.heap B) z.heap := argH_ok arg
  have dws := dw_all inK arg ds us wl pl okU
  have vV := vals_toV okU
  have offK : ∀ b u, argH K z.heap B b = some u → K.lookup b = none := fun b u q => (argH_is arg q).1
  -- what is tracked of the arguments is a list or a tuple, nothing else
  have seqs : ∀ {b : Addr} {o : Obj}, z.heap.get? b = some o → (∀ vs n, o.data ≠ .seq vs n) → argH K z.heap B b = none := fun {b o} e ns => by
    cases q : argH K z.heap B b with
    | none => rfl
    | some u =>
      obtain ⟨_, vs, _, _, h⟩ := argH_is arg q
      rcases h with ⟨e2, _⟩ | ⟨e2, _⟩ <;> (rw [e2] at e; cases e; exact (ns _ _ rfl).elim)
  generalize argH K z.heap B = H at only hok dws offK seqs
  have down : ∀ {b : Addr} {o : Obj}, z.heap.get? b = some o → H b = none → (hidT z.heap H).get? b = some o := fun e n => hidT_get e n
  have dns : ∀ {b : Addr} {m : Str → Option Value}, z.heap.Ns b m → (hidT z.heap H).Ns b m := fun {b m} ⟨o, es, ep, e, d, r⟩ => ⟨o, es, ep, down e (seqs e fun vs n c => by rw [d] at c; cases c), d, r⟩
  have freeK : ∀ b o, K.lookup b = some o → H b = none := fun b o e => by
    cases q : H b with
    | none => rfl
    | some u => exact absurd (offK b u q) (by rw [e]; simp)
  have inKb : K.In (hidT z.heap H) := fun b o e => down (inK b o e) (freeK b o e)
  have modB : Mod K mg (hidT z.heap H) := ⟨inKb, dns nG, ⟨mb, dns nB, nBb⟩, match lim with | ⟨mc, h1, h2⟩ => ⟨mc, dns h1, h2⟩⟩
  have seerB : (hidT z.heap H).NoSeer := by
    obtain ⟨bm, ob, m1, _, m3, m4, m5, m6⟩ := modu
    obtain ⟨mc, a1, a2⟩ := seer.statics
    obtain ⟨mm, b1, b2⟩ := seer.mods
    exact ⟨⟨mc, dns a1, a2⟩, ⟨mm, dns b1, b2⟩, ⟨mb, dns nB, nBb⟩, ⟨mg, bm, ob, dns nG, m1, down m3 (seqs m3 fun vs n c => by rw [m6] at c; cases c), m4, m5⟩⟩
  have env : Env0 P w K mg (hidT z.heap H) callerA [] z H := ⟨rfl, modB, fun b o e => of_hidT e, Nat.le_of_eq (hidT_size _ _), trivial, fun b hb => absurd (show b ∈ ([] : List Addr) from hb) (by simp), hok, .of_eq gens⟩
  have lv : us.length = ps.length := (wellAll_len wl).trans len
  have run := (F _ inKb (dns nG) seerB).run callerA [] z H ⟨us, []⟩ us (us.map toV) _ _ room env (bind z us lv) vV (hsp H _ only dws)
  refine codeAny_mono run fun r s' x => ?_
  match r, x with
  | .error e, x => exact False.elim x
  | .ok .next, x => exact False.elim x
  | .ok .brk, x => exact False.elim x
  | .ok .cont, x => exact False.elim x
  | .ok (.ret u), ⟨v, H2, o2, bare, un, ok2, rv, q⟩ =>
    have old : ∀ b o, z.heap.get? b = some o → s'.heap.get? b = some o := fun b o e => by
      cases hb : H b with
      | none => exact un.keep b o e hb (fun c => absurd (show b ∈ ([] : List Addr) from c) (by simp)) (by simp)
      | some u2 =>
        rcases only b with c | ⟨ob, u3, c⟩
        · rw [hb] at c; cases c
        · have p1 := (hok b _ c).1
          have p2 := (ok2 b _ (un.frzs b ob _ c)).1
          rw [e] at p1
          cases p1
          exact p2
    obtain ⟨as, rd⟩ := Dw.reads (R := R) (cl := cl) ok2 (fun b o e => old b o (inK b o e)) d0 v u q rv
    exact ⟨u, as, rfl, rd, OldK.of_keep old, o2, bare⟩
/-- the goal that the head leaves -/
theorem walk_seen {r : OpenSpec} {k : Nat} {q : Program} {loose : List Str} {XP : (Str → Option Value) → Heap → Prop} {YP : World → Heap → Prop} {d : DefRec} {K : Params → PySem.W.Frag} {ps : List Str} {sp : PySem.W.Frag → Sp}
    (imp : importsNone q = true) (well : r.wellSaid = true) (ndf : d.params.defaults = []) (len : r.args.length = ps.length) (room : Room k callerA)
    (hY : ∀ (w : World) (h : Heap), YP w h → (K w.params).In h)
    (F : ∀ (w : World) (mg : Str → Option Value) (fa : Addr) (h : Heap), YP w h → (K w.params).In h → h.Ns mainGlobals mg → mg d.name = some (.ref fa) →
      ∃ fd : FuncData, (∀ (s : Shared) (vs : List Value), vs.length = ps.length → BindsTo s fd ⟨vs, []⟩ (ps.zip vs)) ∧
        ∀ b : Heap, (K w.params).In b → b.Ns mainGlobals mg → b.NoSeer → FnOk r.prog w (K w.params) mg b CX0 k fa fd ps (sp (K w.params)))
    (hsp : ∀ (K : PySem.W.Frag) (H : Hp) (xs : List V) (a : Codec.denoteAll r.args), OnlyF H → Codec.withinAll r.args a = true → Codec.app r.args r.asked a = true → DwAll K H xs (Codec.encAll r.args a) →
      sp K xs H (fun v H' => Dw K H' v (r.ret.enc (Codec.app r.args r.f a))) fun _ _ _ => False) :
    PySem.W.WalkOS q loose XP YP r d [] (fun f vs => PySem.call f vs) := by
  intro w z0 z mg mb G Y fa o pm cd doc dV kV ho hd hcd hD hmg hg args us as pre lay rd wl lo
  obtain ⟨a, e1, e2⟩ := PySem.W.os_pre_some pre
  obtain ⟨rfl, win⟩ := Codec.encAll_of_decAll r.args args a e1
  obtain ⟨fd, hb, hF⟩ := F w mg fa _ Y (hY w _ Y) G.T.g hmg
  have call := call_seen (R := []) (cl := classAt z0.heap) (d0 := r.ret.enc (Codec.app r.args r.f a)) (hY w _ Y) G.T.g G.T.b G.T.builtins G.T.nolimit hg (G.T.seer imp) G.T.bmain wl (pl_encAll _ _) (layable_weight lay) room hF hb ((encAll_len _ _).trans len)
    (fun H xs hO hS => hsp (K w.params) H xs a hO win e2 hS)
  refine PySem.W.enter_call (codeAny_mono call fun r' s' hq => ?_)
  obtain ⟨u, as2, rfl, h1, h2, h3, h4⟩ := hq
  exact ⟨.inl ⟨u, _, as2, rfl, fun _ => rfl, h1, (OpenSpec.post_iff well win _ _).mpr rfl, fun c => Bool.noConfusion (show false = true from c)⟩, h2, h3, h4⟩
structure Sys (P : Program) (base : Heap) : Prop where
  seer : base.NoSeer
  tree : P.given.tree = none
/-! ### // by any number but 0 -/
/-- the frame that runs is a plain one -/
def Plain (X : Cx) : Prop := ∃ e l, X.stack = e :: l ∧ e.scope.isGenerator = false ∧ e.scope.isCoroutine = false ∧ e.builtins = builtinsNs ∧ e.globals = mainGlobals
theorem op_fdivP {X : Cx} (seer : X.base.NoSeer) (tree : X.prog.given.tree = none) (pl : Plain X) (dep : X.A.depth + 101 < recursionLimit) : OpR X (binaryOp .FloorDiv) (rI (fun _ j => j ≠ 0) fun i j => .int (i.fdiv j)) := by
  intro pins s σ H x y v u Q I rx ry h
  obtain ⟨i, j, rfl, rfl, hj, q⟩ := h
  obtain ⟨t, rfl⟩ := rx
  obtain ⟨t2, rfl⟩ := ry
  obtain ⟨e, l, e1, e2, e3, e4, e5⟩ := pl
  refine floordiv_int hj ⟨.int (i.fdiv j), H, ?_, ⟨_, rfl⟩, q⟩ (.inr (PylongRoom.of I.nolimit (by show X.A.depth + 100 < recursionLimit; omega) (SeerAt.of (seer.keeps I.bk) tree (I.ok.frames.trans (by rw [e1])) e2 e3 e4 e5)))
  exact I.tok _
end LF
end
section
set_option maxRecDepth 100000
set_option maxHeartbeats 4000000
namespace LF
open PySem PySem.Spec PyProof.Rows L2
variable {P : Program} {w : World} {K : PySem.W.Frag} {mg : Str → Option Value} {base : Heap}
/-! // of numbers that are not too long -/
theorem noPy {i j : Int} (h : i.natAbs < 2 ^ 13500) : Builtin.divisionGoesByPylong i j = false := by
  show (decide _ && decide _) = false
  rw [Bool.and_eq_false_iff]
  by_cases c : (if j == 0 then 0 else j.natAbs.log2 / 30 + 1) > 300
  · right
    refine decide_eq_false ?_
    have hl : i.natAbs.log2 < 13500 := PySem.Flt.log2_lt_of (by decide) h
    clear h
    have h1 : (if i == 0 then 0 else i.natAbs.log2 / 30 + 1) ≤ 450 := by split <;> omega
    show ¬ ((if i == 0 then 0 else i.natAbs.log2 / 30 + 1) > (if j == 0 then 0 else j.natAbs.log2 / 30 + 1) + 150)
    omega
  · exact Or.inl (decide_eq_false c)
def CDivZ (i j : Int) : Prop := j ≠ 0 ∧ i.natAbs < 2 ^ 13500
theorem op_fdivZ {X : Cx} : OpR X (binaryOp .FloorDiv) (rI CDivZ fun i j => .int (i.fdiv j)) := opI fun i j _ _ _ _ _ hc q => floordiv_int hc.1 q (.inl (noPy hc.2))
abbrev sCp : Stmt := top 20
def NCp : List Str := ["a", "b", "rest"]
theorem scCp : FnScope NCp ["a", "b"] (defScope sCp) := ⟨rfl, rfl, rfl, by decide +kernel, rfl, by decide +kernel, by decide +kernel⟩
/-- common_part -/
def spCp : Sp := fun vs H Q _ => ∃ a b : Int, vs = [.int a, .int b] ∧ Q (.int (Nat.gcd a.natAbs b.natAbs : Nat)) H
theorem abs_if (a : Int) : (if a < 0 then -a else a) = (a.natAbs : Int) := by split <;> omega
theorem ok_cp {f : Addr} {fd : FuncData} (F : Fun K "common_part" "common_part" sCp f fd) (B : Bi mg) : FnOk P w K mg base CX0 1 f fd ["a", "b"] spCp := by
  refine F.ok scCp (fun vs H Q E h => ?_) (fun cdv A outer s H vs Q E hr h => ?_)
  · obtain ⟨a, b, rfl, _⟩ := h
    rfl
  · have nd : NCp.Nodup := scCp.nd
    obtain ⟨a, b, rfl, k⟩ := h
    refine ⟨_, pss_cons (ps_set (i := 0) nd rfl (Or.inl rfl) (pe_callB call_abs (by rfl) B.abs (by decide +kernel) (pa_cons (pv 0) pa_nil)))
      (pss_cons (ps_set (i := 1) nd rfl (Or.inl rfl) (pe_callB call_abs (by rfl) B.abs (by decide +kernel) (pa_cons (pv 1) pa_nil)))
      (pss_cons (ps_while PassesOwn.never (pt_cmpR op_ne (pv 1) pe_int (nomark _))
        (pss_cons (ps_set (i := 2) nd rfl (Or.inl rfl) (pe_op op_mod (pv 0) (pv 1)))
        (pss_cons (ps_set (i := 0) nd rfl (Or.inl rfl) (pv 1))
        (pss_one (ps_set (i := 1) nd rfl (Or.inl rfl) (pv 2))))))
      (pss_one (ps_ret (pv 0))))), ?_⟩
    refine ⟨_, rfl, _, rfl, _, rfl, _, rfl, ?_⟩
    refine ⟨fun m σ H' => ∃ (x y : Nat) (v : Option V), m = y ∧ σ = [some (.int x), some (.int y), v] ∧ H' = H ∧ Nat.gcd x y = Nat.gcd a.natAbs b.natAbs, ⟨b.natAbs, a.natAbs, b.natAbs, none, rfl, ?_, rfl, rfl⟩, ?_⟩
    · show ([some (V.int _), some (V.int _), none] : L2.St) = _
      rw [abs_if, abs_if]
    · rintro m σ H' ⟨x, y, v, rfl, rfl, rfl, e⟩
      refine ⟨_, rfl, rfl, _, rfl, ?_⟩
      by_cases c : m = 0
      · subst c
        refine ifF (by simp) ?_
        refine ⟨_, rfl, ?_⟩
        rw [Nat.gcd_zero_right] at e
        rw [e]
        exact k
      · refine ifT (by simp; omega) ?_
        refine ⟨fun σ' H2 => ∃ v : Option V, σ' = [some (.int m), some (.int ((x % m : Nat) : Int)), v] ∧ H2 = H', ?_, ?_⟩
        · rintro σ' H2 ⟨v, rfl, rfl⟩
          refine ⟨x % m, Nat.mod_lt _ (by omega), m, x % m, v, rfl, rfl, rfl, ?_⟩
          rw [← e, Nat.gcd_comm x m, Nat.gcd_rec m x, Nat.gcd_comm]
        · refine ⟨_, rfl, _, rfl, _, _, rfl, rfl, by omega, ?_⟩
          refine ⟨_, rfl, _, rfl, some (.int ((x % m : Nat) : Int)), ?_, rfl⟩
          show ([some (V.int m), some (V.int ((x : Int) % m)), some (V.int ((x : Int) % m))] : L2.St) = _
          simp
abbrev sTf : Stmt := top 21
def NTf : List Str := ["above", "below", "common"]
theorem scTf : FnScope NTf ["above", "below"] (defScope sTf) := ⟨rfl, rfl, rfl, by decide +kernel, rfl, by decide +kernel, by decide +kernel⟩
/-- a fraction told -/
theorem fdiv_exact {g x y : Int} (hg : g ≠ 0) (h : x = y * g) : x.fdiv g = y := by
  rw [h, Int.mul_fdiv_cancel _ hg]
theorem told_div {a b : Int} (hb : b ≠ 0) {c : Int} (hc : c = if b < 0 then -((Nat.gcd a.natAbs b.natAbs : Nat) : Int) else ((Nat.gcd a.natAbs b.natAbs : Nat) : Int)) :
    [a.fdiv c, b.fdiv c] = Wp04.told ((a : Rat) / (b : Rat)) := by
  have hg : (Nat.gcd a.natAbs b.natAbs : Nat) ≠ 0 := by
    intro z
    have := Nat.eq_zero_of_gcd_eq_zero_right z
    omega
  have ga : ((Nat.gcd a.natAbs b.natAbs : Nat) : Int) ∣ a := Int.ofNat_dvd_left.mpr (Nat.gcd_dvd_left ..)
  have gb : ((Nat.gcd a.natAbs b.natAbs : Nat) : Int) ∣ b := Int.ofNat_dvd_left.mpr (Nat.gcd_dvd_right ..)
  obtain ⟨x, hx⟩ := ga
  obtain ⟨y, hy⟩ := gb
  unfold Wp04.told
  rw [← Rat.divInt_eq_div, Rat.num_divInt, Rat.den_divInt, if_neg hb]
  have eg : b.gcd a = Nat.gcd a.natAbs b.natAbs := by
    show Nat.gcd b.natAbs a.natAbs = _
    exact Nat.gcd_comm ..
  rw [eg]
  generalize Nat.gcd a.natAbs b.natAbs = g at *
  have hg' : (g : Int) ≠ 0 := by omega
  have hy0 : y ≠ 0 := by
    intro z; rw [z] at hy; simp at hy; exact hb hy
  have hnb : ((b.natAbs / g : Nat) : Int) = if b < 0 then -y else y := by
    have e1 : b.natAbs = g * y.natAbs := by rw [hy, Int.natAbs_mul, Int.natAbs_natCast]
    rw [e1, Nat.mul_div_cancel_left _ (by omega)]
    by_cases c : b < 0
    · rw [if_pos c]
      have : y < 0 := by
        rcases Int.lt_or_le y 0 with h | h
        · exact h
        · have := Int.mul_nonneg (show (0 : Int) ≤ g by omega) h
          omega
      omega
    · rw [if_neg c]
      have : 0 ≤ y := by
        rcases Int.lt_or_le y 0 with h | h
        · have := Int.mul_neg_of_pos_of_neg (show (0 : Int) < g by omega) h
          omega
        · exact h
      omega
  rw [hnb]
  by_cases c1 : b < 0
  · rw [if_pos c1] at hc
    rw [if_pos c1, Int.sign_eq_neg_one_of_neg c1, fdiv_exact (y := -x) (by omega) (by rw [hc, hx]; grind), fdiv_exact (y := -y) (by omega) (by rw [hc, hy]; grind)]
    rw [show (-1 : Int) * a = g * (-x) by rw [hx]; grind, Int.mul_ediv_cancel_left _ hg']
  · rw [if_neg c1] at hc
    rw [if_neg c1, Int.sign_eq_one_of_pos (by omega), fdiv_exact (y := x) (by omega) (by rw [hc, hx]; grind), fdiv_exact (y := y) (by omega) (by rw [hc, hy]; grind)]
    rw [show (1 : Int) * a = g * x by rw [hx]; grind, Int.mul_ediv_cancel_left _ hg']
def spTf : Sp := fun vs H Q _ => ∃ a b : Int, vs = [.int a, .int b] ∧ b ≠ 0 ∧ ∀ p, H p = none → Q (.ref p) (upd H p (.lst ((Wp04.told ((a : Rat) / (b : Rat))).map V.int)))
theorem ok_tf {f : Addr} {fd : FuncData} (F : Fun K "told_fraction" "told_fraction" sTf f fd) (B : Bi mg) (S : Sys P base) (cC : Cal P w K mg base "common_part" 1 ["a", "b"] spCp) : FnOk P w K mg base CX0 40 f fd ["above", "below"] spTf := by
  refine F.ok scTf (fun vs H Q E h => ?_) (fun cdv A outer s H vs Q E hr h => ?_)
  · obtain ⟨a, b, rfl, _⟩ := h
    rfl
  · have nd : NTf.Nodup := scTf.nd
    obtain ⟨a, b, rfl, hb, k⟩ := h
    have hr1 : Room 1 _ := hr.mono (by decide)
    have dep : (A.deeper (envOfC "told_fraction" (defScope sTf) s.heap.objs.size f cdv)).depth + 101 < recursionLimit := by have := hr.dp; omega
    refine ⟨_, pss_cons (ps_set (i := 2) nd rfl (Or.inl rfl) (pe_call cC.ok hr1 (by rfl) cC.mgx cC.kp cC.b .nil pass0 (pa_cons (pv 0) (pa_cons (pv 1) pa_nil))))
      (pss_cons (ps_if (pt_cmpR op_lt (pv 1) pe_int (nomark _)) (pss_one (ps_set (i := 2) nd rfl (Or.inl rfl) (pe_un un_neg (pv 2)))) pss_nil)
      (pss_one (ps_ret (pe_lst (pa_cons (pe_op (op_fdivP S.seer S.tree ⟨_, _, rfl, rfl, rfl, rfl, rfl⟩ dep) (pv 0) (pv 2)) (pa_cons (pe_op (op_fdivP S.seer S.tree ⟨_, _, rfl, rfl, rfl, rfl, rfl⟩ dep) (pv 1) (pv 2)) pa_nil)))))), ?_⟩
    refine ⟨_, rfl, _, rfl, a, b, rfl, ?_⟩
    refine ⟨_, rfl, _, _, rfl, rfl, _, rfl, ?_⟩
    have fin : ∀ c : Int, c = (if b < 0 then -((Nat.gcd a.natAbs b.natAbs : Nat) : Int) else ((Nat.gcd a.natAbs b.natAbs : Nat) : Int)) → c ≠ 0 ∧ [a.fdiv c, b.fdiv c] = Wp04.told ((a : Rat) / (b : Rat)) := fun c hc => ⟨by
      have hg : (Nat.gcd a.natAbs b.natAbs : Nat) ≠ 0 := fun z => by have := Nat.eq_zero_of_gcd_eq_zero_right z; omega
      rw [hc]
      split <;> omega, told_div hb hc⟩
    by_cases c : b < 0
    · refine ifT (decide_eq_true c) ?_
      obtain ⟨h0, e⟩ := fin (-((Nat.gcd a.natAbs b.natAbs : Nat) : Int)) (by rw [if_pos c])
      refine ⟨_, rfl, _, rfl, ?_⟩
      refine ⟨_, rfl, _, rfl, _, _, rfl, rfl, h0, _, rfl, _, rfl, _, _, rfl, rfl, h0, show 2 ≤ sizeLine by decide, fun p hp => ?_⟩
      have := k p hp
      rw [← e] at this
      exact this
    · refine ifF (decide_eq_false c) ?_
      obtain ⟨h0, e⟩ := fin ((Nat.gcd a.natAbs b.natAbs : Nat) : Int) (by rw [if_neg c])
      refine ⟨_, rfl, _, rfl, _, _, rfl, rfl, h0, _, rfl, _, rfl, _, _, rfl, rfl, h0, show 2 ≤ sizeLine by decide, fun p hp => ?_⟩
      have := k p hp
      rw [← e] at this
      exact this
end LF
end
section
set_option maxRecDepth 100000
set_option maxHeartbeats 4000000
namespace LF
open PySem PySem.Spec PyProof.Rows L2
variable {P : Program} {w : World} {K : PySem.W.Frag} {mg : Str → Option Value} {base : Heap}
theorem gcdl_take (row : List Int) {i : Nat} {z : Int} (h : row[i]? = some z) : LA.gcdl (row.take (i + 1)) = Nat.gcd (LA.gcdl (row.take i)) z.natAbs := by
  unfold LA.gcdl
  rw [List.take_add_one, h, List.foldl_append]
  rfl
theorem row_at {t : List Int} {i : Nat} {v : V} (h : (t.map V.int)[i]? = some v) : ∃ z, t[i]? = some z ∧ v = .int z := by
  rw [List.getElem?_map] at h
  cases e : t[i]? with
  | none => rw [e] at h; cases h
  | some z => rw [e] at h; exact ⟨z, rfl, (Option.some.inj h).symm⟩
abbrev sSh : Stmt := top 22
def NSh : List Str := ["row", "common", "number"]
theorem scSh : FnScope NSh ["row"] (defScope sSh) := ⟨rfl, rfl, rfl, by decide +kernel, rfl, by decide +kernel, by decide +kernel⟩
/-- shortened -/
def spSh : Sp := fun vs H Q _ => ∃ (r : Addr) (row : List Int), vs = [.ref r] ∧ H r = some (.lst (row.map V.int)) ∧ row.length ≤ 1000 ∧
  ∀ (H' : Hp) (p : Addr), Same H H' → H' p = some (.lst ((LA.shorten row).map V.int)) → Q (.ref p) H'
theorem ok_sh {f : Addr} {fd : FuncData} (F : Fun K "shortened" "shortened" sSh f fd) (B : Bi mg) (S : Sys P base) (cC : Cal P w K mg base "common_part" 1 ["a", "b"] spCp) : FnOk P w K mg base CX0 40 f fd ["row"] spSh := by
  refine F.ok scSh (fun vs H Q E h => ?_) (fun cdv A outer s H vs Q E hr h => ?_)
  · obtain ⟨r, row, rfl, _⟩ := h
    rfl
  · have nd : NSh.Nodup := scSh.nd
    have hrc : Room 1 _ := hr.mono (by decide)
    have dep : (A.deeper (envOfC "shortened" (defScope sSh) s.heap.objs.size f cdv)).depth + 101 < recursionLimit := by have := hr.dp; omega
    obtain ⟨r, row, rfl, hr1, lr, k⟩ := h
    refine ⟨_, pss_cons (ps_set (i := 1) nd rfl (Or.inr rfl) pe_int)
      (pss_cons (ps_for PassesOwn.never rfl (pi_list (pv 0)) (pg_name (i := 2) nd rfl (Or.inl rfl))
        (pss_one (ps_set (i := 1) nd rfl (Or.inr rfl) (pe_call cC.ok hrc (by rfl) cC.mgx cC.kp cC.b .nil pass0 (pa_cons (pv 1) (pa_cons (pv 2) pa_nil))))))
      (pss_cons (ps_if (pt_cmpR op_eq (pv 1) pe_int (nomark _)) (pss_one (ps_ret (pv 0))) pss_nil)
      (pss_one (ps_ret (pe_lc (own := [("number", 2)]) (g := gName 2) (tt := tYes) rfl nd (pi_list (pv 0))
              (blkOk_by (N := NSh) (sc := defScope sSh) (by decide +kernel)) (fun _ _ _ _ _ => pg_name (i := 2) nd rfl (Or.inl rfl)) (fun _ _ _ _ _ => pts_nil)
              (fun _ _ _ _ _ => pe_op (op_fdivP S.seer S.tree ⟨_, _, rfl, rfl, rfl, rfl, rfl⟩ dep) (pv 2) (pv 1))))))), ?_⟩
    refine ⟨_, rfl, r, rfl, ⟨_, SqL.of hr1⟩, for_list (K := K) (a := r) (xs := row.map V.int) (fun i σ H' => ∃ v, σ = [some (.ref r), some (.int (LA.gcdl (row.take i) : Nat)), v] ∧ H' = H)
      ⟨none, rfl, rfl⟩ (fun i σ H' _ ⟨_, _, e⟩ => by rw [e]; exact SqL.of hr1) ?_ ?_⟩
    · rintro i x σ H' hx ⟨v, rfl, rfl⟩
      obtain ⟨z, hz, rfl⟩ := row_at hx
      refine ⟨_, rfl, _, rfl, _, z, rfl, some (.int z), ?_, rfl⟩
      rw [gcdl_take row hz]
      simp
    · rintro σ H' ⟨v, rfl, rfl⟩
      rw [List.length_map, List.take_length]
      refine ⟨_, rfl, rfl, _, rfl, ?_⟩
      by_cases c : LA.gcdl row = 0
      · refine ifT (by rw [c]; simp) ?_
        refine ⟨_, rfl, k H' r (Same.refl _) ?_⟩
        unfold LA.shorten
        rw [if_pos c]
        exact hr1
      · refine ifF (by simp [c]) ?_
        refine ⟨_, rfl, r, rfl, ⟨_, SqL.of hr1⟩, fun D hD => ?_⟩
        refine lc_list (K := K) (a := r) (xs := row.map V.int) (fun i H2 => Same H' H2 ∧ H2 D = some (.lst (((LA.shorten row).take i).map V.int))) ⟨same_upd hD, by rw [upd_same]; simp⟩ (fun i H2 _ ⟨s2, _⟩ => SqL.of (s2 _ _ hr1)) ?_ ?_
        · rintro i x H2 hx ⟨s2, h2⟩
          obtain ⟨z, hz, rfl⟩ := row_at hx
          refine ⟨rfl, ?_⟩
          refine ⟨_, rfl, _, rfl, _, _, rfl, rfl, by omega, ?_⟩
          refine ⟨_, h2, small1000 (by
            have := List.length_take_le i (LA.shorten row)
            have := (List.getElem?_eq_some_iff.mp hz).1
            simp; omega), fun b o hb => ?_, ?_⟩
          · rw [upd_ne (ne_of_none hb hD)]
            exact s2 b o hb
          · have e : (LA.shorten row)[i]? = some (z / (LA.gcdl row : Int)) := by
              unfold LA.shorten
              rw [if_neg c, List.getElem?_map, hz]
              rfl
            have e3 : z.fdiv (LA.gcdl row : Int) = z / (LA.gcdl row : Int) := Int.fdiv_eq_ediv_of_nonneg _ (by omega)
            rw [upd_same, List.take_add_one, e, ← e3]
            simp
        · rintro H2 ⟨s2, h2⟩
          rw [List.length_map, List.take_of_length_le (by rw [LA.len_shorten]; exact Nat.le_refl _)] at h2
          exact k H2 D s2 h2
/-! * of numbers of together less than 130 million bits -/
def CMulZ (i j : Int) : Prop := i.natAbs.log2 + j.natAbs.log2 < 130000000
theorem bits_le (x : Int) : Builtin.Int.intBits x ≤ x.natAbs.log2 + 1 := by
  unfold Builtin.Int.intBits
  split <;> omega
theorem mulZ_ok {i j : Int} (h : CMulZ i j) : IntMulOk i j := by
  have h1 := bits_le i
  have h2 := bits_le j
  unfold CMulZ at h
  unfold IntMulOk
  intro c
  have c2 := of_decide_eq_true (show decide _ = true from (Bool.and_eq_true _ _ ▸ c).2)
  have e : bitsLine = 134217728 := by decide
  rw [e] at c2
  omega
theorem op_mulZ {X : Cx} : OpR X (binaryOp .Mult) (rI CMulZ fun i j => .int (i * j)) := opI fun _ _ _ _ _ _ _ hc q => mul_int q (mulZ_ok hc)
theorem mulZ {i j : Int} {a b : Nat} (ha : i.natAbs < 2 ^ a) (hb : j.natAbs < 2 ^ b) (h0 : 0 < a) (h1 : 0 < b) (h : a + b ≤ 130000000) : CMulZ i j := by
  have u := PySem.Flt.log2_lt_of h0 ha
  have v := PySem.Flt.log2_lt_of h1 hb
  unfold CMulZ
  omega
abbrev sCl : Stmt := top 23
def NCl : List Str := ["row", "by", "place", "j"]
theorem scCl : FnScope NCl ["row", "by", "place"] (defScope sCl) := ⟨rfl, rfl, rfl, by decide +kernel, rfl, by decide +kernel, by decide +kernel⟩
theorem fi_lt {k : Nat} {row : List Int} (h : Bd k row) (hk : 0 < k) (j : Nat) : (LA.fi row j).natAbs < 2 ^ k := h.at hk j
/-- cleared -/
def spCl : Sp := fun vs H Q _ => ∃ (r b : Addr) (row by' : List Int) (p kb : Nat), vs = [.ref r, .ref b, .int p] ∧ H r = some (.lst (row.map V.int)) ∧ H b = some (.lst (by'.map V.int)) ∧ Bd kb row ∧ Bd kb by' ∧ 0 < kb ∧ kb ≤ 60000000 ∧ row.length = by'.length ∧ p < row.length ∧ row.length ≤ 1000 ∧
  ∀ (H' : Hp) (q : Addr), Same H H' → H' q = some (.lst ((LA.clear row by' p).map V.int)) → Q (.ref q) H'
theorem ok_cl {f : Addr} {fd : FuncData} (F : Fun K "cleared" "cleared" sCl f fd) (B : Bi mg) (cS : Cal P w K mg base "shortened" 40 ["row"] spSh) : FnOk P w K mg base CX0 41 f fd ["row", "by", "place"] spCl := by
  refine F.ok scCl (fun vs H Q E h => ?_) (fun cdv A outer s H vs Q E hr h => ?_)
  · obtain ⟨r, b, row, by', p, kb, rfl, _⟩ := h
    rfl
  · have nd : NCl.Nodup := scCl.nd
    obtain ⟨r, b, row, by', p, kb, rfl, h1, h2, br, bb, kb0, kb9, hl, hp, l9, k⟩ := h
    refine ⟨_, pss_cons (ps_if (pt_cmpR op_eq (pe_ix (r := rIxL K) ix_list (pv 0) (pv 2) (fun _ _ => rfl)) pe_int (nomark _)) (pss_one (ps_ret (pv 0))) pss_nil)
      (pss_one (ps_ret (pe_call cS.ok hr (by rfl) cS.mgx cS.kp cS.b .nil pass0 (pa_cons
        (pe_lc (own := [("j", 3)]) (g := gName 3) (tt := tYes) rfl nd (pi_range1 (by rfl) B.range (pa_cons (pe_callB call_len_seq (by rfl) B.len PySem.boot_len (pa_cons (pv 0) pa_nil)) pa_nil))
              (blkOk_by (N := NCl) (sc := defScope sCl) (by decide +kernel)) (fun _ _ _ _ _ => pg_name (i := 3) nd rfl (Or.inl rfl)) (fun _ _ _ _ _ => pts_nil)
              (fun _ _ _ _ _ => pe_op op_sub (pe_op op_mulZ (pe_ix (r := rIxL K) ix_list (pv 1) (pv 2) (fun _ _ => rfl)) (pe_ix (r := rIxL K) ix_list (pv 0) (pv 3) (fun _ _ => rfl)))
                (pe_op op_mulZ (pe_ix (r := rIxL K) ix_list (pv 0) (pv 2) (fun _ _ => rfl)) (pe_ix (r := rIxL K) ix_list (pv 1) (pv 3) (fun _ _ => rfl))))) pa_nil)))), ?_⟩
    refine ⟨_, rfl, _, rfl, r, _, _, _, rfl, rfl, SqL.of h1, at_of (j := p) rfl (getD_map hp), rfl, _, rfl, ?_⟩
    by_cases c : LA.fi row p = 0
    · refine ifT (by show decide (V.int (LA.fi row p) = V.int 0) = true; rw [c]; simp) ?_
      refine ⟨_, rfl, k H r (Same.refl _) ?_⟩
      unfold LA.clear
      rw [if_pos c]
      exact h1
    · refine ifF (by show decide (V.int (LA.fi row p) = V.int 0) = false; simp [c]) ?_
      refine ⟨_, rfl, r, _, rfl, .inl (SqL.of h1), _, rfl, by omega, by simp; omega, ?_⟩
      rw [List.length_map, Int.toNat_natCast]
      intro D hD
      refine lc_range (lo := 0) (fun i H2 => Same H H2 ∧ H2 D = some (.lst (((List.range i).map fun j => LA.fi by' p * LA.fi row j - LA.fi row p * LA.fi by' j).map V.int))) ⟨same_upd hD, by rw [upd_same]; rfl⟩ ?_ ?_
      · rintro i H2 hi ⟨s2, e2⟩
        refine ⟨rfl, ?_⟩
        refine ⟨_, rfl, _, rfl, b, _, _, _, rfl, rfl, SqL.of (s2 _ _ h2), at_of (j := p) rfl (getD_map (by omega)), ?_⟩
        refine ⟨_, rfl, _, rfl, r, _, _, _, rfl, rfl, SqL.of (s2 _ _ h1), at_of (j := i) (by omega) (getD_map hi), ?_⟩
        refine ⟨_, _, rfl, rfl, mulZ (fi_lt bb kb0 p) (fi_lt br kb0 i) kb0 kb0 (by omega), ?_⟩
        refine ⟨_, rfl, _, rfl, r, _, _, _, rfl, rfl, SqL.of (s2 _ _ h1), at_of (j := p) rfl (getD_map hp), ?_⟩
        refine ⟨_, rfl, _, rfl, b, _, _, _, rfl, rfl, SqL.of (s2 _ _ h2), at_of (j := i) (by omega) (getD_map (by omega)), ?_⟩
        refine ⟨_, _, rfl, rfl, mulZ (fi_lt br kb0 p) (fi_lt bb kb0 i) kb0 kb0 (by omega), ?_⟩
        refine ⟨_, _, rfl, rfl, ?_⟩
        refine ⟨_, e2, small1000 (by simp; omega), fun b' o hb => ?_, ?_⟩
        · rw [upd_ne (ne_of_none hb hD)]
          exact s2 b' o hb
        · rw [upd_same, List.range_succ, List.map_append, List.map_append]
          rfl
      · rintro H2 ⟨s2, e2⟩
        refine ⟨D, LA.mixed row by' p, rfl, e2, by simp [LA.mixed]; omega, fun H3 q s3 e3 => ?_⟩
        refine k H3 q (s2.trans s3) ?_
        unfold LA.clear
        rw [if_neg c]
        exact e3
end LF
end
section
set_option maxRecDepth 100000
set_option maxHeartbeats 4000000
namespace LF
open PySem PySem.Spec PyProof.Rows L2
variable {P : Program} {w : World} {K : PySem.W.Frag} {mg : Str → Option Value} {base : Heap}
/-- rows at addresses -/
def RL (H : Hp) (L : List (Addr × List Int)) : Prop := ∀ p ∈ L, H p.1 = some (.lst (p.2.map V.int))
theorem RL.same {H H' : Hp} {L : List (Addr × List Int)} (h : RL H L) (s : Same H H') : RL H' L := fun p hp => s _ _ (h p hp)
theorem RL.at {H : Hp} {L : List (Addr × List Int)} (h : RL H L) {i : Nat} {p : Addr × List Int} (e : L[i]? = some p) : H p.1 = some (.lst (p.2.map V.int)) := h p (List.mem_of_getElem? e)
theorem refs_ints {L : List (Addr × List Int)} {t : List Int} (h : refs L = t.map V.int) : t = [] := by
  cases t with
  | nil => rfl
  | cons x t =>
    cases L with
    | nil => cases h
    | cons p L =>
      unfold refs at h
      rw [List.map_cons, List.map_cons] at h
      injection h with h1 h2
      cases h1
theorem small4k {n : Nat} (h : n ≤ 4000) : n < sizeLine := Nat.lt_of_le_of_lt h (by decide)
abbrev sPo : Stmt := top 24
def NPo : List Str := ["rows", "place", "k"]
theorem scPo : FnScope NPo ["rows", "place"] (defScope sPo) := ⟨rfl, rfl, rfl, by decide +kernel, rfl, by decide +kernel, by decide +kernel⟩
/-- place_of_one_with -/
def spPo : Sp := fun vs H Q _ => ∃ (l : Addr) (R : List (Addr × List Int)) (p : Nat), vs = [.ref l, .int p] ∧ H l = some (.lst (refs R)) ∧ RL H R ∧ (∀ r ∈ R, p < r.2.length) ∧ R.length ≤ 4000 ∧
  (LA.pick (R.map (·.2)) p = none → Q .non H) ∧ (∀ k, LA.pick (R.map (·.2)) p = some k → Q (.int (k : Nat)) H)
theorem ok_po {f : Addr} {fd : FuncData} (F : Fun K "place_of_one_with" "place_of_one_with" sPo f fd) (B : Bi mg) : FnOk P w K mg base CX0 1 f fd ["rows", "place"] spPo := by
  refine F.ok scPo (fun vs H Q E h => ?_) (fun cdv A outer s H vs Q E hr h => ?_)
  · obtain ⟨l, R, p, rfl, _⟩ := h
    rfl
  · have nd : NPo.Nodup := scPo.nd
    obtain ⟨l, R, p, rfl, hl, rl, hp, l9, kN, kS⟩ := h
    refine ⟨_, pss_cons (ps_for PassesOwn.never rfl (pi_range1 (by rfl) B.range (pa_cons (pe_callB call_len_seq (by rfl) B.len PySem.boot_len (pa_cons (pv 0) pa_nil)) pa_nil)) (pg_name (i := 2) nd rfl (Or.inl rfl))
        (pss_one (ps_if (pt_cmpR op_ne (pe_ix (r := rIxL K) ix_list (pe_ix (r := rIxL K) ix_list (pv 0) (pv 2) (fun _ _ => rfl)) (pv 1) (fun _ _ => rfl)) pe_int (nomark _)) (pss_one (ps_ret (pv 2))) pss_nil)))
      (pss_one (ps_ret pe_non)), ?_⟩
    refine ⟨_, rfl, l, _, rfl, .inl (SqL.of hl), _, rfl, by omega, by rw [len_refs]; omega, ?_⟩
    rw [len_refs, Int.toNat_natCast]
    refine for_range (lo := 0) (n := R.length) (fun i σ H' => ∃ v, σ = [some (.ref l), some (.int p), v] ∧ H' = H ∧ ∀ j r, j < i → R[j]? = some r → LA.fi r.2 p = 0) ⟨none, rfl, rfl, fun j r hj => by omega⟩ ?_ ?_
    · rintro i σ H' hi ⟨v, rfl, rfl, h0⟩
      obtain ⟨r, hri⟩ : ∃ r, R[i]? = some r := ⟨_, List.getElem?_eq_getElem hi⟩
      have hrm := List.mem_of_getElem? hri
      refine ⟨_, rfl, _, rfl, l, _, _, _, rfl, rfl, SqL.of hl, at_of (j := i) (by omega) (at_refs hri), _, rfl, r.1, _, _, _, rfl, rfl, SqL.of (rl r hrm), at_of (j := p) rfl (getD_map (hp r hrm)), rfl, _, rfl, ?_⟩
      by_cases c : LA.fi r.2 p = 0
      · refine ifF (by show (!decide (V.int (LA.fi r.2 p) = V.int 0)) = false; rw [c]; simp) ?_
        refine ⟨some (.int (0 + i)), rfl, rfl, fun j r' hj hr' => ?_⟩
        by_cases q : j = i
        · subst q
          rw [hri] at hr'
          cases hr'
          exact c
        · exact h0 j r' (by omega) hr'
      · refine ifT (by show (!decide (V.int (LA.fi r.2 p) = V.int 0)) = true; simp [c]) ?_
        refine ⟨_, rfl, ?_⟩
        rw [show ((0 : Int) + i) = ((i : Nat) : Int) by omega]
        refine kS i ?_
        unfold LA.pick
        rw [List.findIdx?_eq_some_iff_getElem]
        obtain ⟨hi2, e2⟩ := List.getElem?_eq_some_iff.mp hri
        refine ⟨by simpa using hi, ?_, fun j hj => ?_⟩
        · simp [e2, c]
        · have hjR : j < R.length := by omega
          have := h0 j R[j] hj (List.getElem?_eq_getElem hjR)
          simpa using this
    · rintro σ H' ⟨v, rfl, rfl, h0⟩
      refine kN ?_
      unfold LA.pick
      rw [List.findIdx?_eq_none_iff]
      intro x hx
      obtain ⟨r, hr', rfl⟩ := List.mem_map.mp hx
      obtain ⟨j, hj, e⟩ := List.getElem_of_mem hr'
      have := h0 j r hj (by rw [List.getElem?_eq_getElem hj, e])
      simp [this]
abbrev sFn : Stmt := top 26
def NFn : List Str := ["row", "place"]
theorem scFn : FnScope NFn ["row"] (defScope sFn) := ⟨rfl, rfl, rfl, by decide +kernel, rfl, by decide +kernel, by decide +kernel⟩
/-- first_place -/
def spFn : Sp := fun vs H Q _ => ∃ (l : Addr) (row : List Int), vs = [.ref l] ∧ H l = some (.lst (row.map V.int)) ∧ LA.fi row (LA.lead row) ≠ 0 ∧ row.length ≤ 1000 ∧ Q (.int (LA.lead row : Nat)) H
theorem lead_len {row : List Int} (h : LA.fi row (LA.lead row) ≠ 0) : LA.lead row < row.length := by
  rcases Nat.lt_or_ge (LA.lead row) row.length with h1 | h1
  · exact h1
  · exact absurd (LA.fi_ge h1) h
theorem ok_fn {f : Addr} {fd : FuncData} (F : Fun K "first_place" "first_place" sFn f fd) (B : Bi mg) : FnOk P w K mg base CX0 1 f fd ["row"] spFn := by
  refine F.ok scFn (fun vs H Q E h => ?_) (fun cdv A outer s H vs Q E hr h => ?_)
  · obtain ⟨l, row, rfl, _⟩ := h
    rfl
  · have nd : NFn.Nodup := scFn.nd
    obtain ⟨l, row, rfl, hl, hne, l9, k⟩ := h
    have hld := lead_len hne
    refine ⟨_, pss_cons (ps_set (i := 1) nd rfl (Or.inl rfl) pe_int)
      (pss_cons (ps_while PassesOwn.never (pt_cmpR op_eq (pe_ix (r := rIxL K) ix_list (pv 0) (pv 1) (fun _ _ => rfl)) pe_int (nomark _)) (pss_one (ps_aug (i := 1) nd rfl (Or.inl rfl) pe_int ip_add)))
      (pss_one (ps_ret (pv 1)))), ?_⟩
    refine ⟨fun m σ H' => ∃ i : Nat, m = row.length - i ∧ σ = [some (.ref l), some (.int i)] ∧ H' = H ∧ i ≤ LA.lead row, ⟨row.length, 0, rfl, rfl, rfl, Nat.zero_le _⟩, ?_⟩
    rintro m σ H' ⟨i, rfl, rfl, rfl, hi⟩
    refine ⟨_, rfl, _, rfl, l, _, _, _, rfl, rfl, SqL.of hl, at_of (j := i) rfl (getD_map (by omega)), rfl, _, rfl, ?_⟩
    by_cases c : i < LA.lead row
    · refine ifT (by show decide (V.int (LA.fi row i) = V.int 0) = true; rw [LA.lead_lt c]; simp) ?_
      refine ⟨fun σ' H2 => σ' = [some (.ref l), some (.int ((i + 1 : Nat) : Int))] ∧ H2 = H', ?_, ?_⟩
      · rintro σ' H2 ⟨rfl, rfl⟩
        exact ⟨row.length - (i + 1), by omega, i + 1, rfl, rfl, rfl, c⟩
      · exact ⟨_, rfl, _, _, rfl, rfl, rfl, rfl⟩
    · have e : i = LA.lead row := by omega
      subst e
      refine ifF (by show decide (V.int (LA.fi row (LA.lead row)) = V.int 0) = false; simp [hne]) ?_
      exact ⟨_, rfl, k⟩
abbrev sTr : Stmt := top 28
def NTr : List Str := ["row", "below", "told", "number"]
theorem scTr : FnScope NTr ["row", "below"] (defScope sTr) := ⟨rfl, rfl, rfl, by decide +kernel, rfl, by decide +kernel, by decide +kernel⟩
theorem nrm_eq (row : List Int) : LA.nrm row = row.map fun (z : Int) => (z : Rat) / (LA.fi row (LA.lead row) : Rat) := by
  unfold LA.nrm Wp04.scale LA.iq
  rw [List.map_map]
  apply List.map_congr_left
  intro z _
  show 1 / _ * (z : Rat) = _
  grind
/-- told by its first number -/
theorem toldBy_nrm (row : List Int) : LA.toldBy row (LA.fi row (LA.lead row)) = (LA.nrm row).flatMap Wp04.told := by
  rw [nrm_eq, List.flatMap_map]
  rfl
/-- told_row -/
def spTr : Sp := fun vs H Q _ => ∃ (l : Addr) (row : List Int) (b : Int), vs = [.ref l, .int b] ∧ H l = some (.lst (row.map V.int)) ∧ b ≠ 0 ∧ row.length ≤ 1000 ∧
  ∀ (H' : Hp) (p : Addr), Same H H' → H p = none → H' p = some (.lst ((LA.toldBy row b).map V.int)) → Q (.ref p) H'
theorem ok_tr {f : Addr} {fd : FuncData} (F : Fun K "told_row" "told_row" sTr f fd) (B : Bi mg) (cT : Cal P w K mg base "told_fraction" 40 ["above", "below"] spTf) : FnOk P w K mg base CX0 41 f fd ["row", "below"] spTr := by
  refine F.ok scTr (fun vs H Q E h => ?_) (fun cdv A outer s H vs Q E hr h => ?_)
  · obtain ⟨l, row, b, rfl, _⟩ := h
    rfl
  · have nd : NTr.Nodup := scTr.nd
    obtain ⟨l, row, b, rfl, hl, hne, l9, k⟩ := h
    refine ⟨_, pss_cons (ps_set (i := 2) nd rfl (Or.inl rfl) (pe_lst pa_nil))
      (pss_cons (ps_for PassesOwn.never rfl (pi_list (pv 0)) (pg_name (i := 3) nd rfl (Or.inl rfl))
        (pss_one (ps_expr (pe_bm PySem.F.plainAttrs_list PySem.F.slot_list_extend PySem.F.type_list_extend mt_extend (pv 2) (pa_cons (pe_call cT.ok hr (by rfl) cT.mgx cT.kp cT.b .nil pass0 (pa_cons (pv 3) (pa_cons (pv 1) pa_nil))) pa_nil)))))
      (pss_one (ps_ret (pv 2)))), ?_⟩
    refine ⟨by decide, fun t ht => ?_⟩
    refine ⟨_, rfl, l, rfl, ⟨_, SqL.of (same_upd ht _ _ hl)⟩, for_list (K := K) (a := l) (xs := row.map V.int) (fun i σ H' => ∃ v, σ = [some (.ref l), some (.int b), some (.ref t), v] ∧ Same H H' ∧ H' t = some (.lst ((LA.toldBy (row.take i) b).map V.int)))
      ⟨none, rfl, same_upd ht, by rw [upd_same]; simp [LA.toldBy]⟩ (fun i σ H' _ ⟨_, _, s1, _⟩ => SqL.of (s1 _ _ hl)) ?_ ?_⟩
    · rintro i x σ H' hx ⟨v, rfl, s1, e1⟩
      obtain ⟨z, hz, rfl⟩ := row_at hx
      refine ⟨_, rfl, .inl ⟨rfl, _, SqL.of e1⟩, _, rfl, _, rfl, z, _, rfl, hne, fun q hq => ?_⟩
      have htq : t ≠ q := ne_of_none e1 hq
      have hl2 : ((LA.toldBy (row.take i) b).map V.int).length ≤ 2000 := by
        rw [List.length_map, LA.toldBy_len, List.length_take]
        omega
      refine ⟨t, q, _, _, rfl, rfl, by rw [upd_ne htq]; exact e1, upd_same, ?_, ?_⟩
      · have : ((Wp04.told ((z : Rat) / (b : Rat))).map V.int).length = 2 := by simp [Wp04.told]
        rw [this]
        have : 2002 ≤ sizeLine := by decide
        omega
      · refine ⟨some (.int z), rfl, fun b' o hb => ?_, ?_⟩
        · rw [upd_ne (ne_of_none hb ht), upd_ne (ne_of_none (s1 b' o hb) hq)]
          exact s1 b' o hb
        · rw [upd_same, List.take_add_one, hz]
          simp [LA.toldBy]
    · rintro σ H' ⟨v, rfl, s1, e1⟩
      rw [List.length_map, List.take_length] at e1
      exact ⟨_, rfl, k H' t s1 ht e1⟩
end LF
end
section
set_option maxRecDepth 100000
set_option maxHeartbeats 4000000
namespace LF
open PySem PySem.Spec PyProof.Rows L2
variable {P : Program} {w : World} {K : PySem.W.Frag} {mg : Str → Option Value} {base : Heap}
theorem sumRow_more {n d : Nat} (g : List (List Int)) (t : List Int) (m : List Nat) :
    LA.sumRow n d (g ++ [t]) m = (List.range (Wp04.monos n d).length).map fun j => LA.fi (LA.sumRow n d g m) j + LA.dget (LA.mvd n t d m) (LA.mk n d j) := by
  apply List.ext_getElem
  · simp [LA.sumRow]
  · intro j h1 h2
    have hj : j < (Wp04.monos n d).length := by simpa [LA.sumRow] using h1
    simp only [List.getElem_map, List.getElem_range]
    rw [LA.fi_sumRow g m hj]
    have e : ∀ q : List Int, LA.fi (LA.coefs n d (LA.mvd n q d m)) j = LA.dget (LA.mvd n q d m) (LA.mk n d j) := fun q => by
      simp [LA.fi, LA.coefs, LA.mk, List.getD_eq_getElem?_getD, List.getElem?_map, List.getElem?_eq_getElem hj]
    have e2 : LA.mk n d j = (Wp04.monos n d)[j] := by
      simp [LA.mk, List.getD_eq_getElem?_getD, List.getElem?_eq_getElem hj]
    simp only [e, e2]
    simp [LA.sumRow, List.map_append, List.sum_append]
theorem sumRow_nil {n d : Nat} (m : List Nat) : LA.sumRow n d [] m = List.replicate (Wp04.monos n d).length 0 := by
  unfold LA.sumRow
  simp only [List.map_nil, List.sum_nil]
  rw [List.map_const']
theorem refs_set (L : List (Addr × List Int)) (i : Nat) (p : Addr × List Int) : (refs L).set i (.ref p.1) = refs (L.set i p) := by
  unfold refs
  rw [List.map_set]
abbrev sSm : Stmt := top 18
def NSm : List Str := ["n", "group", "d", "order", "sums", "monomial", "table", "moved", "i", "image", "j"]
theorem scSm : FnScope NSm ["n", "group", "d"] (defScope sSm) := ⟨rfl, rfl, rfl, by decide +kernel, rfl, by decide +kernel, by decide +kernel⟩
/-- sums_of_moved -/
def spSm : Sp := fun vs H Q _ => ∃ (n : Nat) (g : Addr) (G : List (Addr × List Int)) (d : Nat), vs = [.int n, .ref g, .int d] ∧ (n = 2 ∨ n = 3) ∧ d ≤ 8 ∧ H g = some (.lst (refs G)) ∧ TL H G ∧ (∀ p ∈ G, p.2.length = n * n ∧ ∀ z ∈ p.2, z.natAbs < 2 ^ 200) ∧
  ∀ (H' : Hp) (p : Addr) (R : List (Addr × List Int)), Same H H' → H p = none → H' p = some (.lst (refs R)) → RL H' R → R.map (·.2) = LA.sumRows n d (G.map (·.2)) → Q (.ref p) H'
theorem ok_sm {f : Addr} {fd : FuncData} (F : Fun K "sums_of_moved" "sums_of_moved" sSm f fd) (B : Bi mg) (cM : Cal P w K mg base "monomials" 1 ["n", "d"] spMo) (cV : Cal P w K mg base "moved_monomials" 3 ["n", "table", "d"] spMm) :
    FnOk P w K mg base CX0 4 f fd ["n", "group", "d"] spSm := by
  refine F.ok scSm (fun vs H Q E h => ?_) (fun cdv A outer s H vs Q E hr h => ?_)
  · obtain ⟨n, g, G, d, rfl, _⟩ := h
    rfl
  · have nd : NSm.Nodup := scSm.nd
    have hu := hu_of hr
    have hr1 : Room 1 _ := hr.mono (by decide)
    obtain ⟨n, g, G, d, rfl, hn, hd, hg, tg, hG, k⟩ := h
    refine ⟨_, pss_cons (ps_set (i := 3) nd rfl (Or.inr rfl) (pe_call cM.ok hr1 (by rfl) cM.mgx cM.kp cM.b .nil pass0 (pa_cons (pv 0) (pa_cons (pv 2) pa_nil))))
      (pss_cons (ps_set (i := 4) nd rfl (Or.inr rfl) (pe_lc (own := [("monomial", 5)]) (g := gName 5) (tt := tYes) rfl nd (pi_list (pv 3))
          (blkOk_by (N := NSm) (sc := defScope sSm) (by decide +kernel)) (fun _ _ _ _ _ => pg_name (i := 5) nd rfl (Or.inl rfl)) (fun _ _ _ _ _ => pts_nil)
          (fun _ _ _ _ _ => pe_op op_rep (pe_lst (pa_cons pe_int pa_nil)) (pe_callB (r := fun xs H Q => ∃ p ys, xs = [.ref p] ∧ (SqL K H p ys ∨ SqT K H p ys) ∧ Q (.int ys.length) H) call_len_seq (by rfl) B.len PySem.boot_len (pa_cons (pv 3) pa_nil)))))
      (pss_cons (ps_for PassesOwn.never rfl (pi_list (pv 1)) (pg_name (i := 6) nd rfl (Or.inl rfl))
        (pss_cons (ps_set (i := 7) nd rfl (Or.inl rfl) (pe_call cV.ok hr (by rfl) cV.mgx cV.kp cV.b .nil pass0 (pa_cons (pv 0) (pa_cons (pv 6) (pa_cons (pv 2) pa_nil)))))
        (pss_one (ps_for PassesOwn.never rfl (pi_range1 (by rfl) B.range (pa_cons (pe_callB call_len_seq (by rfl) B.len PySem.boot_len (pa_cons (pv 3) pa_nil)) pa_nil)) (pg_name (i := 8) nd rfl (Or.inr rfl))
          (pss_cons (ps_set (i := 9) nd rfl (Or.inr rfl) (pe_dget hu (pv 7) (pe_ix (r := rIxL K) ix_list (pv 3) (pv 8) (fun _ _ => rfl)) (fun _ _ => rfl)))
          (pss_one (ps_asg (pe_lc (own := [("j", 10)]) (g := gName 10) (tt := tYes) rfl nd (pi_range1 (by rfl) B.range (pa_cons (pe_callB call_len_seq (by rfl) B.len PySem.boot_len (pa_cons (pv 3) pa_nil)) pa_nil))
              (blkOk_by (N := NSm) (sc := defScope sSm) (by decide +kernel)) (fun _ _ _ _ _ => pg_name (i := 10) nd rfl (Or.inl rfl)) (fun _ _ _ _ _ => pts_nil)
              (fun _ _ _ _ _ => pe_op op_add (pe_ix (r := rIxL K) ix_list (pe_ix (r := rIxL K) ix_list (pv 4) (pv 8) (fun _ _ => rfl)) (pv 10) (fun _ _ => rfl)) (pe_dget2 hu (pv 9) (pe_ix (r := rIxL K) ix_list (pv 3) (pv 10) (fun _ _ => rfl)) pe_int ⟨rfl, rfl, rfl, rfl⟩)))
            (pg_sub (pv 4) (pv 8) set_list))))))))
      (pss_one (ps_ret (pv 4))))), ?_⟩
    refine ⟨_, rfl, _, rfl, n, d, rfl, hn, hd, fun H1 od Lo s1 hod e1 t1 q1 => ?_⟩
    have hN := LA.monos_small hn hd
    have hLo : Lo.length = (Wp04.monos n d).length := by
      have := congrArg List.length q1
      simpa using this
    have hat : ∀ (i : Nat) (p : Addr × List Int), Lo[i]? = some p → p.2 = toI (LA.mk n d i) ∧ LA.mk n d i ∈ Wp04.monos n d := fun i p hp => by
      have hi := (List.getElem?_eq_some_iff.mp hp).1
      have := congrArg (fun l => l[i]?) q1
      simp only [List.getElem?_map, hp] at this
      have hi2 : i < (Wp04.monos n d).length := by omega
      rw [List.getElem?_eq_getElem hi2] at this
      refine ⟨?_, LA.mk_mem hi2⟩
      have e : p.2 = toI (Wp04.monos n d)[i] := Option.some.inj this
      rw [e]
      simp [LA.mk, List.getD_eq_getElem?_getD, List.getElem?_eq_getElem hi2]
    -- sums = [[0] * len(order) for monomial in order]
    refine ⟨_, rfl, od, rfl, ⟨_, SqL.of e1⟩, fun D hD => ?_⟩
    refine lc_list (K := K) (a := od) (xs := refs Lo) (fun i H2 => Same H1 H2 ∧ ∃ R : List (Addr × List Int), H2 D = some (.lst (refs R)) ∧ RL H2 R ∧ R.length = i ∧ (∀ r ∈ R, r.1 ≠ D ∧ r.2 = List.replicate (Wp04.monos n d).length 0)) ⟨same_upd hD, [], by rw [upd_same]; rfl, by simp [RL], rfl, by simp⟩
      (fun i H2 _ ⟨s2, _⟩ => SqL.of (s2 _ _ e1)) ?_ ?_
    · rintro i x H2 hx ⟨s2, R, e2, r2, l2, a2⟩
      have hi : i < Lo.length := by
        have := (List.getElem?_eq_some_iff.mp hx).1
        rwa [len_refs] at this
      refine ⟨rfl, ?_⟩
      refine ⟨show 1 ≤ sizeLine by decide, fun z hz => ?_⟩
      have e1z : upd H2 z (.lst [.int 0]) od = some (.lst (refs Lo)) := same_upd hz _ _ (s2 _ _ e1)
      refine ⟨_, rfl, od, _, rfl, .inl (SqL.of e1z), z, _, _, rfl, rfl, upd_same, by omega, by rw [len_refs]; omega, ?_, fun q hq => ?_⟩
      · rw [len_refs, Int.toNat_natCast]
        exact Nat.le_of_lt (small1000 (by simp; omega))
      · rw [len_refs, Int.toNat_natCast, hLo]
        have er : (List.replicate (Wp04.monos n d).length [V.int 0]).flatten = (List.replicate (Wp04.monos n d).length (0 : Int)).map V.int := by
          rw [List.map_replicate]
          generalize (Wp04.monos n d).length = m
          induction m with
          | zero => rfl
          | succ m ih => rw [List.replicate_succ, List.flatten_cons, ih, List.replicate_succ]; rfl
        rw [er]
        have s3 := (same_upd (o := .lst [.int 0]) hz).trans (same_upd (o := .lst ((List.replicate (Wp04.monos n d).length (0 : Int)).map V.int)) hq)
        have hqD : q ≠ D := fun c => by
          rw [c] at hq
          rw [same_upd hz _ _ e2] at hq
          cases hq
        refine ⟨_, s3 _ _ e2, small1000 (by rw [len_refs]; omega), fun b o hb => ?_, R ++ [(q, List.replicate (Wp04.monos n d).length 0)], ?_, fun y hy => ?_, by simp [l2], fun y hy => ?_⟩
        · rw [upd_ne (ne_of_none hb hD)]
          exact s3 _ _ (s2 _ _ hb)
        · rw [upd_same]; simp [refs]
        · rcases List.mem_append.mp hy with hy | hy
          · rw [upd_ne (a2 y hy).1]
            exact s3 _ _ (r2 y hy)
          · rw [List.mem_singleton.mp hy, upd_ne hqD]
            exact upd_same
        · rcases List.mem_append.mp hy with hy | hy
          · exact a2 y hy
          · rw [List.mem_singleton.mp hy]
            exact ⟨hqD, rfl⟩
    · rintro H2 ⟨s2, R, e2, r2, l2, a2⟩
      rw [len_refs, hLo] at l2
      have s3 : Same H H2 := s1.trans s2
      have hDH : H D = none := s1.free hD
      have hoD : od ≠ D := ne_of_none e1 hD
      have e1' : H2 od = some (.lst (refs Lo)) := s2 _ _ e1
      have t1' : TL H2 Lo := t1.same s2
      have tneD : ∀ {Hx : Hp} {b : Addr} {R : List (Addr × List Int)}, Hx D = some (.lst (refs R)) → (∀ o, Hx b = some o → (∀ xs, o ≠ .lst xs) → b ≠ D) := fun {Hx b R} hD' o hb hno z => by
        rw [z, hD'] at hb
        exact hno _ (Option.some.inj hb).symm
      refine ⟨_, rfl, g, rfl, ⟨_, SqL.of (s3 _ _ hg)⟩, for_list (K := K) (a := g) (xs := refs G) (fun a σ H' => ∃ (R : List (Addr × List Int)) (v6 v7 v8 v9 : Option V), σ = [some (.int n), some (.ref g), some (.int d), some (.ref od), some (.ref D), none, v6, v7, v8, v9, none] ∧
        (∀ b o, H2 b = some o → b ≠ D → H' b = some o) ∧ H' D = some (.lst (refs R)) ∧ RL H' R ∧ R.length = (Wp04.monos n d).length ∧ ∀ k r, R[k]? = some r → r.1 ≠ D ∧ r.2 = LA.sumRow n d ((G.take a).map (·.2)) (LA.mk n d k))
        ⟨R, none, none, none, none, rfl, fun b o hb _ => hb, e2, r2, l2, fun k r hr' => ⟨(a2 r (List.mem_of_getElem? hr')).1, by rw [(a2 r (List.mem_of_getElem? hr')).2]; exact (sumRow_nil _).symm⟩⟩
        (fun a σ H' _ ⟨_, _, _, _, _, _, s4, _⟩ => SqL.of (s4 _ _ (s3 _ _ hg) (ne_of_none hg hDH))) ?_ ?_⟩
      · rintro a x σ H' hx ⟨R, v6, v7, v8, v9, rfl, s4, e4, r4, l4, a4⟩
        obtain ⟨p, hp, rfl⟩ := refs_at hx
        have hpm := List.mem_of_getElem? hp
        have hpt : H' p.1 = some (.tup (p.2.map V.int)) := s4 _ _ (s3 _ _ (tg p hpm)) (ne_of_none (tg p hpm) hDH)
        refine ⟨_, rfl, _, rfl, _, rfl, n, p.1, p.2, d, rfl, hn, hd, hpt, (hG p hpm).1, (hG p hpm).2, fun H3 mo L s5 hmo e3 md q3 => ?_⟩
        have e5 : H3 D = some (.lst (refs R)) := s5 _ _ e4
        have hmD : mo ≠ D := fun z => by rw [z, e4] at hmo; cases hmo
        have od3 : H3 od = some (.lst (refs Lo)) := s5 _ _ (s4 _ _ e1' hoD)
        refine ⟨_, rfl, od, _, rfl, .inl (SqL.of od3), _, rfl, by omega, by rw [len_refs]; omega, ?_⟩
        rw [len_refs, Int.toNat_natCast, hLo]
        refine for_range (lo := 0) (n := (Wp04.monos n d).length) (fun i σ H4 => ∃ (R : List (Addr × List Int)) (v8 v9 : Option V), σ = [some (.int n), some (.ref g), some (.int d), some (.ref od), some (.ref D), none, some (.ref p.1), some (.ref mo), v8, v9, none] ∧
          (∀ b o, H3 b = some o → b ≠ D → H4 b = some o) ∧ H4 D = some (.lst (refs R)) ∧ RL H4 R ∧ R.length = (Wp04.monos n d).length ∧ ∀ k r, R[k]? = some r → r.1 ≠ D ∧ r.2 = LA.sumRow n d (if k < i then (G.take (a + 1)).map (·.2) else (G.take a).map (·.2)) (LA.mk n d k))
          ⟨R, v8, v9, rfl, fun b o hb _ => hb, e5, r4.same s5, l4, fun k r hr' => by simpa using a4 k r hr'⟩ ?_ ?_
        · rintro i σ H4 hi ⟨R, v8, v9, rfl, s6, e6, r6, l6, a6⟩
          obtain ⟨po, hpo⟩ : ∃ po, Lo[i]? = some po := ⟨_, List.getElem?_eq_getElem (by omega)⟩
          obtain ⟨epo, mpo⟩ := hat i po hpo
          have od4 : H4 od = some (.lst (refs Lo)) := s6 _ _ od3 hoD
          have tup4 : ∀ (j : Nat) (q : Addr × List Int), Lo[j]? = some q → H4 q.1 = some (.tup ((toI (LA.mk n d j)).map V.int)) := fun j q hq => by
            have h1 := t1'.at hq
            rw [(hat j q hq).1] at h1
            have n1 : q.1 ≠ D := tneD e2 _ h1 (fun xs c => by cases c)
            exact s6 _ _ (s5 _ _ (s4 _ _ h1 n1)) n1
          obtain ⟨av, hav, hval⟩ := mdk_val (L := L) (m := LA.mk n d i) (by rw [q3]; exact mpo)
          have mo4 : H4 mo = some (.dT (mdk L)) := s6 _ _ e3 hmD
          have av4 : H4 av = some (.dT (kd (LA.mvd n p.2 d (LA.mk n d i)))) := by
            have h1 := md _ hav
            exact s6 _ _ h1 (tneD e5 _ h1 (fun xs c => by cases c))
          refine ⟨_, rfl, _, rfl, _, rfl, od, _, _, _, rfl, rfl, SqL.of od4, at_of (j := i) (by omega) (at_refs hpo), mo, .ref av, rfl, .inr ⟨mdk L, mkey (LA.mk n d i), po.1, .inl mo4, rfl, by rw [mkeyV]; exact tup4 i po hpo, hval.symm⟩, ?_⟩
          obtain ⟨ri, hri⟩ : ∃ ri, R[i]? = some ri := ⟨_, List.getElem?_eq_getElem (by omega)⟩
          obtain ⟨riD, eri⟩ := a6 i ri hri
          rw [if_neg (by omega)] at eri
          have ri4 := r6.at hri
          have lri : ri.2.length = (Wp04.monos n d).length := by rw [eri]; simp [LA.sumRow]
          refine ⟨_, rfl, od, _, rfl, .inl (SqL.of od4), _, rfl, by omega, by rw [len_refs]; omega, ?_⟩
          rw [len_refs, Int.toNat_natCast, hLo]
          intro D2 hD2
          refine lc_range (lo := 0) (fun j H5 => Same H4 H5 ∧ H5 D2 = some (.lst (((List.range j).map fun j => LA.fi ri.2 j + LA.dget (LA.mvd n p.2 d (LA.mk n d i)) (LA.mk n d j)).map V.int))) ⟨same_upd hD2, by rw [upd_same]; rfl⟩ ?_ ?_
          · rintro j H5 hj ⟨s7, e7⟩
            obtain ⟨pj, hpj⟩ : ∃ pj, Lo[j]? = some pj := ⟨_, List.getElem?_eq_getElem (by omega)⟩
            refine ⟨rfl, ?_⟩
            refine ⟨_, rfl, _, rfl, D, _, _, _, rfl, rfl, SqL.of (s7 _ _ e6), at_of (j := i) (by omega) (at_refs hri), ?_⟩
            refine ⟨_, rfl, ri.1, _, _, _, rfl, rfl, SqL.of (s7 _ _ ri4), at_of (j := j) (by omega) (getD_map (by omega)), ?_⟩
            refine ⟨_, rfl, av, rfl, .inr ⟨_, .inl (s7 _ _ av4)⟩, _, rfl, _, rfl, od, _, _, _, rfl, rfl, SqL.of (s7 _ _ od4), at_of (j := j) (by omega) (at_refs hpj), ?_⟩
            refine ⟨_, DGet.t (k := mkey (LA.mk n d j)) (s7 _ _ av4) (by rw [mkeyV]; exact s7 _ _ (tup4 j pj hpj)), ?_⟩
            refine ⟨_, _, rfl, (kd_val _ _).1, ?_⟩
            refine ⟨_, e7, small1000 (by simp; omega), fun b o hb => ?_, ?_⟩
            · rw [upd_ne (ne_of_none hb hD2)]
              exact s7 b o hb
            · rw [upd_same, List.range_succ, List.map_append, List.map_append]
              rfl
          · rintro H5 ⟨s7, e7⟩
            refine ⟨_, rfl, _, rfl, D, _, _, i, rfl, rfl, s7 _ _ e6, ?_, ?_⟩
            · rw [len_refs, l6]
              unfold ixN
              rw [if_pos (by omega), if_pos (by omega)]
              congr 1
              omega
            · have hD2D : D2 ≠ D := fun z => by rw [z, e6] at hD2; cases hD2
              generalize hnew : ((List.range (Wp04.monos n d).length).map fun j => LA.fi ri.2 j + LA.dget (LA.mvd n p.2 d (LA.mk n d i)) (LA.mk n d j)) = newr at e7
              have enew : newr = LA.sumRow n d ((G.take (a + 1)).map (·.2)) (LA.mk n d i) := by
                have et : (G.take (a + 1)).map (·.2) = (G.take a).map (·.2) ++ [p.2] := by rw [List.take_add_one, hp, List.map_append]; rfl
                rw [et, sumRow_more, ← eri, ← hnew]
              have es := refs_set R i (D2, newr)
              rw [es]
              refine ⟨R.set i (D2, newr), some (.int (0 + i)), some (.ref av), rfl, fun b o hb hne => ?_, upd_same, fun y hy => ?_, by simp [l6], fun k' r' hr' => ?_⟩
              · rw [upd_ne hne]
                exact s7 _ _ (s6 _ _ hb hne)
              · rcases List.mem_or_eq_of_mem_set hy with hy | hy
                · obtain ⟨k2, hk2, ek2⟩ := List.getElem_of_mem hy
                  have hy2 := (a6 k2 y (by rw [List.getElem?_eq_getElem hk2, ek2])).1
                  rw [upd_ne hy2]
                  exact s7 _ _ (r6 y hy)
                · rw [hy, upd_ne hD2D]
                  exact e7
              · rw [List.getElem?_set] at hr'
                by_cases c : i = k'
                · subst c
                  rw [if_pos rfl, if_pos (by omega)] at hr'
                  cases hr'
                  exact ⟨hD2D, by rw [if_pos (by omega)]; exact enew⟩
                · rw [if_neg c] at hr'
                  obtain ⟨b1, b2⟩ := a6 k' r' hr'
                  refine ⟨b1, ?_⟩
                  rw [b2]
                  congr 1
                  by_cases c2 : k' < i
                  · rw [if_pos c2, if_pos (by omega)]
                  · rw [if_neg c2, if_neg (by omega)]
        · rintro σ H4 ⟨R, v8, v9, rfl, s6, e6, r6, l6, a6⟩
          refine ⟨R, some (.ref p.1), some (.ref mo), v8, v9, rfl, fun b o hb hne => s6 _ _ (s5 _ _ (s4 _ _ hb hne)) hne, e6, r6, l6, fun k' r' hr' => ?_⟩
          obtain ⟨b1, b2⟩ := a6 k' r' hr'
          refine ⟨b1, ?_⟩
          have hk : k' < R.length := (List.getElem?_eq_some_iff.mp hr').1
          rw [b2, if_pos (by omega)]
      · rintro σ H' ⟨R, v6, v7, v8, v9, rfl, s4, e4, r4, l4, a4⟩
        rw [len_refs, List.take_length] at a4
        refine ⟨_, rfl, k H' D R (fun b o hb => s4 _ _ (s3 b o hb) (ne_of_none hb hDH)) hDH e4 r4 ?_⟩
        apply List.ext_getElem
        · simp [LA.sumRows, l4]
        · intro i h1 h2
          have hi : i < R.length := by simpa using h1
          have := (a4 i R[i] (List.getElem?_eq_getElem hi)).2
          rw [List.getElem_map, this]
          have hi2 : i < (Wp04.monos n d).length := by omega
          simp [LA.sumRows, LA.mk, List.getD_eq_getElem?_getD, List.getElem?_eq_getElem hi2]
end LF
end
section
set_option maxRecDepth 100000
set_option maxHeartbeats 4000000
namespace LF
open PySem PySem.Spec PyProof.Rows L2
variable {P : Program} {w : World} {K : PySem.W.Frag} {mg : Str → Option Value} {base : Heap}
abbrev sFr : Stmt := top 25
def NFr : List Str := ["rows", "kept", "left", "width", "place", "k", "by", "row"]
theorem scFr : FnScope NFr ["rows"] (defScope sFr) := ⟨rfl, rfl, rfl, by decide +kernel, rfl, by decide +kernel, by decide +kernel⟩
theorem refs_erase (L : List (Addr × List Int)) (k : Nat) : (refs L).eraseIdx k = refs (L.eraseIdx k) := by
  unfold refs
  induction L generalizing k with
  | nil => rfl
  | cons p L ih =>
    cases k with
    | zero => rfl
    | succ k =>
      show V.ref p.1 :: (L.map fun p => V.ref p.1).eraseIdx k = V.ref p.1 :: (L.eraseIdx k).map fun p => V.ref p.1
      rw [ih k]
theorem er_map {α β : Type} (g : α → β) : ∀ (L : List α) (k : Nat), (L.eraseIdx k).map g = (L.map g).eraseIdx k
  | [], _ => rfl
  | p :: L, 0 => rfl
  | p :: L, k + 1 => by
    show g p :: (L.eraseIdx k).map g = g p :: (L.map g).eraseIdx k
    rw [er_map g L k]
theorem bd_of_le {row : List Int} {M k : Nat} (h : ∀ j, (LA.fi row j).natAbs ≤ M) (hM : M < 2 ^ k) : Bd k row := by
  intro z hz
  obtain ⟨j, hj, e⟩ := List.getElem_of_mem hz
  have := h j
  rw [show LA.fi row j = z by simp [LA.fi, List.getD_eq_getElem?_getD, List.getElem?_eq_getElem hj, e]] at this
  omega
theorem seq_ix {k n : Nat} (h : k < n) : seqIndex? (k : Int) n = some k := (ixN_seq (n := n) (i := (k : Int)) (j := k) (by
  unfold ixN
  rw [if_pos (by omega), if_pos (by omega)]
  simp)).1
theorem elim_len {N : Nat} : ∀ {rows : List (List Int)} (p : Nat), (LA.elimAt rows p).1.length + (LA.elimAt rows p).2.length = rows.length
  | rows, 0 => by simp [LA.elimAt]
  | rows, p + 1 => by
    have ih := elim_len (N := N) (rows := rows) p
    rw [LA.elimAt_succ]
    unfold LA.turn
    cases e : LA.pick (LA.elimAt rows p).1 p with
    | none => exact ih
    | some k =>
      obtain ⟨hk, _⟩ := List.findIdx?_eq_some_iff_getElem.mp e
      simp only [List.length_map, List.length_append, List.length_cons, List.length_nil, List.length_eraseIdx, if_pos hk]
      omega
/-- [cleared(row, by, place) for row in ..] -/
theorem clear_all {v0 v1 v2 v3 v5 v7 : Option V} {z : Int} {p N j kb : Nat} {b a : Addr} {H : Hp} {Q : VK} {L : List (Addr × List Int)} {by' : List Int}
    (hz : z = (p : Int)) (hj : ([v0, v1, v2, v3, some (.int z), v5, some (.ref b), v7] : L2.St)[j]? = some (some (.ref a))) (ha : H a = some (.lst (refs L))) (rl : RL H L) (hb : H b = some (.lst (by'.map V.int)))
    (hL : ∀ r ∈ L, r.2.length = N ∧ Bd kb r.2) (hB : by'.length = N ∧ Bd kb by') (kb0 : 0 < kb) (kb9 : kb ≤ 60000000) (hp : p < N) (h9 : N ≤ 1000) (hl9 : L.length ≤ 4000)
    (k : ∀ (H2 : Hp) (D : Addr) (Ln : List (Addr × List Int)), Same H H2 → H D = none → H2 D = some (.lst (refs Ln)) → RL H2 Ln → Ln.map (·.2) = (L.map (·.2)).map (fun r => LA.clear r by' p) → Q (.ref D) H2) :
    tLc (iList K (tVar j)) (gName 7) tYes (tCall spCl [] E0 (tCons (tVar 7) (tCons (tVar 6) (tCons (tVar 4) tNil)))) [7] [v0, v1, v2, v3, some (.int z), v5, some (.ref b), v7] H Q := by
  subst hz
  refine ⟨_, hj, a, rfl, ⟨_, SqL.of ha⟩, fun D hD => ?_⟩
  refine lc_list (K := K) (a := a) (xs := refs L) (fun i H2 => Same H H2 ∧ ∃ Ln : List (Addr × List Int), H2 D = some (.lst (refs Ln)) ∧ RL H2 Ln ∧ Ln.map (·.2) = ((L.take i).map (·.2)).map (fun r => LA.clear r by' p)) ⟨same_upd hD, [], by rw [upd_same]; rfl, by simp [RL], rfl⟩
    (fun i H2 _ ⟨s2, _⟩ => SqL.of (s2 _ _ ha)) ?_ ?_
  · rintro i x H2 hx ⟨s2, Ln, e1, rn, en⟩
    obtain ⟨r, hri, rfl⟩ := refs_at hx
    have hrm := List.mem_of_getElem? hri
    refine ⟨rfl, ?_⟩
    refine ⟨_, rfl, _, rfl, _, rfl, r.1, b, r.2, by', p, kb, rfl, s2 _ _ (rl r hrm), s2 _ _ hb, (hL r hrm).2, hB.2, kb0, kb9, by rw [(hL r hrm).1, hB.1], by rw [(hL r hrm).1]; exact hp, by rw [(hL r hrm).1]; exact h9, fun H3 q s3 e3 => ?_⟩
    have hln : Ln.length = (L.take i).length := by
      have := congrArg List.length en
      simpa using this
    refine ⟨_, s3 _ _ e1, small4k (by rw [len_refs, hln, List.length_take]; omega), fun b' o hb' => ?_, Ln ++ [(q, LA.clear r.2 by' p)], ?_, ?_, ?_⟩
    · rw [upd_ne (ne_of_none hb' hD)]
      exact s3 _ _ (s2 _ _ hb')
    · rw [upd_same]; simp [refs]
    · have hlc : (LA.clear r.2 by' p).length = N := by
        unfold LA.clear
        split
        · exact (hL r hrm).1
        · rw [LA.len_shorten]; simp [LA.mixed, (hL r hrm).1]
      intro y hy
      have hyD : y.1 ≠ D ∧ H3 y.1 = some (.lst (y.2.map V.int)) ∨ y.1 ≠ D ∧ False ∨ (y.1 ≠ D ∧ H3 y.1 = some (.lst (y.2.map V.int))) := by
        have h1 : ∀ t : List Int, H3 D = some (.lst (t.map V.int)) → t = [] := fun t ht => by
          rw [s3 _ _ e1] at ht
          exact refs_ints (HO.lst.inj (Option.some.inj ht))
        have h2 : H3 y.1 = some (.lst (y.2.map V.int)) ∧ y.2 ≠ [] := by
          rcases List.mem_append.mp hy with hy | hy
          · refine ⟨s3 _ _ (rn y hy), fun z => ?_⟩
            have hm : y.2 ∈ Ln.map (·.2) := List.mem_map.mpr ⟨y, hy, rfl⟩
            rw [en] at hm
            obtain ⟨t, ht, et⟩ := List.mem_map.mp hm
            obtain ⟨r', hr', rfl⟩ := List.mem_map.mp ht
            have hr'' := hL r' (List.mem_of_mem_take hr')
            have : (LA.clear r'.2 by' p).length = N := by
              unfold LA.clear
              split
              · exact hr''.1
              · rw [LA.len_shorten]; simp [LA.mixed, hr''.1]
            rw [et, z] at this
            simp at this; omega
          · simp at hy; subst hy
            refine ⟨e3, fun z => ?_⟩
            rw [show LA.clear r.2 by' p = [] from z] at hlc
            simp at hlc; omega
        exact Or.inl ⟨fun z => h2.2 (h1 y.2 (by rw [← z]; exact h2.1)), h2.1⟩
      rcases hyD with ⟨n1, h1⟩ | ⟨_, h1⟩ | ⟨n1, h1⟩
      · rw [upd_ne n1]; exact h1
      · exact h1.elim
      · rw [upd_ne n1]; exact h1
    · rw [List.take_add_one, hri]
      simp [en]
  · rintro H2 ⟨s2, Ln, e1, rn, en⟩
    rw [len_refs, List.take_length] at en
    exact k H2 D Ln s2 hD e1 rn en
/-- fewest_rows -/
def spFr : Sp := fun vs H Q _ => ∃ (l : Addr) (R : List (Addr × List Int)) (N M kb : Nat), vs = [.ref l] ∧ H l = some (.lst (refs R)) ∧ RL H R ∧ (∀ r ∈ R, r.2.length = N) ∧ R.length ≤ 4000 ∧ 1 ≤ N ∧ N ≤ 900 ∧ 1 ≤ M ∧
  (∀ r ∈ R, ∀ j, (LA.fi r.2 j).natAbs ≤ M) ∧ ((N + 1) * M) ^ (N + 1) < 2 ^ kb ∧ 0 < kb ∧ kb ≤ 60000000 ∧
  ∀ (H' : Hp) (p : Addr) (G : List (Addr × List Int)), Same H H' → H p = none → H' p = some (.lst (refs G)) → RL H' G → G.map (·.2) = (LA.elimAt (R.map (·.2)) N).2 → Q (.ref p) H'
theorem ok_fr {f : Addr} {fd : FuncData} (F : Fun K "fewest_rows" "fewest_rows" sFr f fd) (B : Bi mg) (cP : Cal P w K mg base "place_of_one_with" 1 ["rows", "place"] spPo) (cC : Cal P w K mg base "cleared" 41 ["row", "by", "place"] spCl) :
    FnOk P w K mg base CX0 42 f fd ["rows"] spFr := by
  refine F.ok scFr (fun vs H Q E h => ?_) (fun cdv A outer s H vs Q E hr h => ?_)
  · obtain ⟨l, R, N, M, kb, rfl, _⟩ := h
    rfl
  · have nd : NFr.Nodup := scFr.nd
    have hr1 : Room 1 _ := hr.mono (by decide)
    obtain ⟨l, R, N, M, kb, rfl, hl, rl, hN, r9, n1, n9, m1, hM, hB, kb0, kb9, k⟩ := h
    refine ⟨_, pss_cons (ps_set (i := 1) nd rfl (Or.inl rfl) (pe_lst pa_nil))
      (pss_cons (ps_set (i := 2) nd rfl (Or.inl rfl) (pe_callTy call_list_of (by rfl) B.list (by decide +kernel) (pa_cons (pv 0) pa_nil)))
      (pss_cons (ps_set (i := 3) nd rfl (Or.inl rfl) (pe_ifExp (pt_truth (pv 0) (fun _ => rfl)) (pe_callB call_len_seq (by rfl) B.len PySem.boot_len (pa_cons (pe_ix (r := rIxL K) ix_list (pv 0) pe_int (fun _ _ => rfl)) pa_nil)) pe_int))
      (pss_cons (ps_for PassesOwn.never rfl (pi_range1 (by rfl) B.range (pa_cons (pv 3) pa_nil)) (pg_name (i := 4) nd rfl (Or.inr rfl))
        (pss_cons (ps_set (i := 5) nd rfl (Or.inl rfl) (pe_call cP.ok hr1 (by rfl) cP.mgx cP.kp cP.b .nil pass0 (pa_cons (pv 2) (pa_cons (pv 4) pa_nil))))
        (pss_one (ps_if (pt_cmpR op_notN (pv 5) pe_non (nomark _))
          (pss_cons (ps_set (i := 6) nd rfl (Or.inr rfl) (pe_bm PySem.F.plainAttrs_list PySem.F.slot_list_pop PySem.F.type_list_pop mt_popAt (pv 2) (pa_cons (pv 5) pa_nil)))
          (pss_cons (ps_setLc (i := 2) (own := [("row", 7)]) (g := gName 7) (tt := tYes) rfl nd rfl rfl (sw_true rfl rfl rfl (by decide +kernel)) (pi_list (pv 2))
              (blkOk_by (N := NFr) (sc := defScope sFr) (by decide +kernel)) (fun _ _ _ _ _ => pg_name (i := 7) nd rfl (Or.inl rfl)) (fun _ _ _ _ _ => pts_nil)
              (fun _ _ _ _ _ => pe_call cC.ok hr (by rfl) cC.mgx cC.kp cC.b .nil pass0 (pa_cons (pv 7) (pa_cons (pv 6) (pa_cons (pv 4) pa_nil)))))
          (pss_cons (ps_setLc (i := 1) (own := [("row", 7)]) (g := gName 7) (tt := tYes) rfl nd rfl rfl (sw_true rfl rfl rfl (by decide +kernel)) (pi_list (pv 1))
              (blkOk_by (N := NFr) (sc := defScope sFr) (by decide +kernel)) (fun _ _ _ _ _ => pg_name (i := 7) nd rfl (Or.inl rfl)) (fun _ _ _ _ _ => pts_nil)
              (fun _ _ _ _ _ => pe_call cC.ok hr (by rfl) cC.mgx cC.kp cC.b .nil pass0 (pa_cons (pv 7) (pa_cons (pv 6) (pa_cons (pv 4) pa_nil)))))
          (pss_one (ps_expr (pe_bm PySem.F.plainAttrs_list PySem.F.slot_list_append PySem.F.type_list_append mt_append (pv 1) (pa_cons (pv 6) pa_nil))))))) pss_nil))))
      (pss_one (ps_ret (pv 1)))))), ?_⟩
    have hrows : ∀ b ∈ R.map (·.2), b.length = N := fun b hb => by
      obtain ⟨r, hr', rfl⟩ := List.mem_map.mp hb
      exact hN r hr'
    have hMM : ∀ o ∈ R.map (·.2), ∀ j, (LA.fi o j).natAbs ≤ M := fun o ho => by
      obtain ⟨r, hr', rfl⟩ := List.mem_map.mp ho
      exact hM r hr'
    have hbound : ∀ i, i ≤ N → ∀ b ∈ (LA.elimAt (R.map (·.2)) i).1 ++ (LA.elimAt (R.map (·.2)) i).2, b.length = N ∧ Bd kb b := fun i hi b hb => by
      have := LA.elim_bound hrows m1 hMM hi b hb
      exact ⟨this.1, bd_of_le this.2 hB⟩
    refine ⟨by decide, fun kk hkk => ?_⟩
    refine ⟨_, rfl, l, _, rfl, .inl (SqL.of (same_upd hkk _ _ hl)), fun ll hll => ?_⟩
    have s0 : Same H (upd (upd H kk (.lst [])) ll (.lst (refs R))) := (same_upd hkk).trans (same_upd hll)
    have hllH : H ll = none := (same_upd hkk).free hll
    have hkl : kk ≠ ll := ne_of_none (H := upd H kk (.lst [])) upd_same hll
    refine ⟨_, rfl, _, .inl ⟨_, SqL.of (s0 _ _ hl), rfl⟩, ?_⟩
    by_cases hR : R = []
    · subst hR
      refine ifF rfl ?_
      refine ⟨_, rfl, 0, rfl, by omega, by omega, ?_⟩
      refine for_range (lo := 0) (n := 0) (fun i σ H' => σ = [some (.ref l), some (.ref kk), some (.ref ll), some (.int 0), none, none, none, none] ∧ H' = upd (upd H kk (.lst [])) ll (.lst (refs []))) ⟨rfl, rfl⟩ (fun i σ H' hi => by omega) ?_
      rintro σ H' ⟨rfl, rfl⟩
      have ee : ∀ N, LA.elimAt [] N = ([], []) := fun N => by
        induction N with
        | zero => rfl
        | succ N ih => rw [LA.elimAt_succ, ih]; rfl
      exact ⟨_, rfl, k _ kk [] s0 hkk (by rw [upd_ne hkl]; exact upd_same) (by simp [RL]) (by rw [List.map_nil, ee])⟩
    have hR1 : 1 ≤ R.length := by
      cases R with
      | nil => exact absurd rfl hR
      | cons x R => simp
    obtain ⟨r0, hr0⟩ : ∃ r0, R[0]? = some r0 := ⟨_, List.getElem?_eq_getElem (by omega)⟩
    refine ifT (by cases R with | nil => exact absurd rfl hR | cons x R => rfl) ?_
    refine ⟨_, rfl, l, _, _, _, rfl, rfl, SqL.of (s0 _ _ hl), at_of (j := 0) rfl (at_refs hr0), r0.1, _, rfl, .inl (SqL.of (s0 _ _ (rl.at hr0))), ?_⟩
    rw [List.length_map, hN r0 (List.mem_of_getElem? hr0)]
    refine ⟨_, rfl, (N : Int), rfl, by omega, by omega, ?_⟩
    rw [Int.toNat_natCast]
    refine for_range (lo := 0) (n := N) (fun i σ H' => ∃ (ll kk : Addr) (Ll Lk : List (Addr × List Int)) (v4 v5 v6 : Option V), σ = [some (.ref l), some (.ref kk), some (.ref ll), some (.int N), v4, v5, v6, none] ∧ Same H H' ∧ H ll = none ∧ H kk = none ∧ kk ≠ ll ∧
      H' ll = some (.lst (refs Ll)) ∧ H' kk = some (.lst (refs Lk)) ∧ RL H' Ll ∧ RL H' Lk ∧ Ll.map (·.2) = (LA.elimAt (R.map (·.2)) i).1 ∧ Lk.map (·.2) = (LA.elimAt (R.map (·.2)) i).2)
      ⟨ll, kk, R, [], none, none, none, rfl, s0, hllH, hkk, hkl, upd_same, by rw [upd_ne hkl]; exact upd_same, rl.same s0, by simp [RL], rfl, rfl⟩ ?_ ?_
    · rintro i σ H' hi ⟨ll, kk, Ll, Lk, v4, v5, v6, rfl, s1, hll, hkk, hkl, e1, e2, r1', r2', q1, q2⟩
      have bL : ∀ r ∈ Ll, r.2.length = N ∧ Bd kb r.2 := fun r hr' => hbound i (by omega) r.2 (by rw [← q1]; exact List.mem_append_left _ (List.mem_map.mpr ⟨r, hr', rfl⟩))
      have bK : ∀ r ∈ Lk, r.2.length = N ∧ Bd kb r.2 := fun r hr' => hbound i (by omega) r.2 (by rw [← q2]; exact List.mem_append_right _ (List.mem_map.mpr ⟨r, hr', rfl⟩))
      have lenL : Ll.length + Lk.length = R.length := by
        have := elim_len (N := N) (rows := R.map (·.2)) i
        rw [← q1, ← q2] at this
        simpa using this
      have hturn := LA.elimAt_succ (R.map (·.2)) i
      unfold LA.turn at hturn
      rw [← q1, ← q2] at hturn
      refine ⟨_, rfl, _, rfl, ll, Ll, i, ?_, e1, r1', fun r hr' => by rw [(bL r hr').1]; exact hi, by omega, fun hp => ?_, fun j hp => ?_⟩
      · show [V.ref ll, V.int (0 + i)] = _
        rw [Int.zero_add]
      · -- none
        refine ⟨_, rfl, rfl, _, rfl, ifF (by simp) ?_⟩
        rw [hp] at hturn
        exact ⟨ll, kk, Ll, Lk, _, _, _, rfl, s1, hll, hkk, hkl, e1, e2, r1', r2', by rw [hturn]; exact q1, by rw [hturn]; exact q2⟩
      · refine ⟨_, rfl, rfl, _, rfl, ifT (by simp) ?_⟩
        rw [hp] at hturn
        obtain ⟨hjl, _⟩ := List.findIdx?_eq_some_iff_getElem.mp hp
        rw [List.length_map] at hjl
        obtain ⟨rb, hrb⟩ : ∃ rb, Ll[j]? = some rb := ⟨_, List.getElem?_eq_getElem hjl⟩
        have hrbm := List.mem_of_getElem? hrb
        have ebj : (Ll.map (·.2)).getD j [] = rb.2 := by rw [List.getD_eq_getElem?_getD, List.getElem?_map, hrb]; rfl
        simp only at hturn
        rw [ebj] at hturn
        refine ⟨_, rfl, .inl ⟨rfl, _, SqL.of e1⟩, _, rfl, ll, _, _, j, _, rfl, rfl, e1, by omega, by omega, by rw [len_refs]; exact seq_ix hjl, at_refs hrb, ?_⟩
        rw [refs_erase]
        have hrbl : rb.1 ≠ ll := fun z => by
          have := r1' rb hrbm
          rw [z, e1] at this
          have h0 := refs_ints (HO.lst.inj (Option.some.inj this))
          have := (bL rb hrbm).1
          rw [h0] at this
          simp at this; omega
        have s2 : Same H (upd H' ll (.lst (refs (Ll.eraseIdx j)))) := fun b o hb => by rw [upd_ne (ne_of_none hb hll)]; exact s1 b o hb
        have hrow : ∀ y : Addr × List Int, H' y.1 = some (.lst (y.2.map V.int)) → y.2.length = N → (upd H' ll (.lst (refs (Ll.eraseIdx j)))) y.1 = some (.lst (y.2.map V.int)) := fun y hy hyN => by
          rw [upd_ne (fun z => by
            rw [z, e1] at hy
            have h0 := refs_ints (HO.lst.inj (Option.some.inj hy))
            rw [h0] at hyN
            simp at hyN; omega)]
          exact hy
        simp only [gName, tSeq, tAsg]
        show tLc (iList K (tVar 2)) (gName 7) tYes (tCall spCl [] E0 (tCons (tVar 7) (tCons (tVar 6) (tCons (tVar 4) tNil)))) [7] [some (.ref l), some (.ref kk), some (.ref ll), some (.int N), some (.int (0 + i)), some (.int j), some (.ref rb.1), none] (upd H' ll (.lst (refs (Ll.eraseIdx j)))) _
        refine clear_all (K := K) (j := 2) (N := N) (p := i) (b := rb.1) (a := ll) (L := Ll.eraseIdx j) (by' := rb.2) (v0 := some (.ref l)) (v1 := some (.ref kk)) (v2 := some (.ref ll)) (v3 := some (.int N)) (v5 := some (.int j)) (v7 := none) (Int.zero_add _) rfl upd_same
          (fun y hy => hrow y (r1' y (List.mem_of_mem_eraseIdx hy)) (bL y (List.mem_of_mem_eraseIdx hy)).1) (hrow rb (r1' rb hrbm) (bL rb hrbm).1) (fun y hy => bL y (List.mem_of_mem_eraseIdx hy)) (bL rb hrbm) kb0 kb9 hi (by omega) (by rw [List.length_eraseIdx]; split <;> omega) fun H2 D2 Ln s3 hD2 f1 f2 f3 => ?_
        have kk2 : H2 kk = some (.lst (refs Lk)) := s3 _ _ (by rw [upd_ne hkl]; exact e2)
        have rb2 : H2 rb.1 = some (.lst (rb.2.map V.int)) := s3 _ _ (hrow rb (r1' rb hrbm) (bL rb hrbm).1)
        have s4 : Same H H2 := s2.trans s3
        have hD2H : H D2 = none := s2.free hD2
        show tLc (iList K (tVar 1)) (gName 7) tYes (tCall spCl [] E0 (tCons (tVar 7) (tCons (tVar 6) (tCons (tVar 4) tNil)))) [7] [some (.ref l), some (.ref kk), some (.ref D2), some (.int N), some (.int (0 + i)), some (.int j), some (.ref rb.1), none] H2 _
        refine clear_all (K := K) (j := 1) (N := N) (p := i) (b := rb.1) (a := kk) (L := Lk) (by' := rb.2) (v0 := some (.ref l)) (v1 := some (.ref kk)) (v2 := some (.ref D2)) (v3 := some (.int N)) (v5 := some (.int j)) (v7 := none) (Int.zero_add _) rfl kk2
          (fun y hy => s3 _ _ (hrow y (r2' y hy) (bK y hy).1)) rb2 bK (bL rb hrbm) kb0 kb9 hi (by omega) (by omega) fun H3 D3 Lm s5 hD3 g1 g2 g3 => ?_
        have s6 : Same H H3 := s4.trans s5
        have hLm : Lm.length = Lk.length := by
          have := congrArg List.length g3
          simpa using this
        refine ⟨_, rfl, .inl ⟨rfl, _, SqL.of g1⟩, _, rfl, D3, _, _, rfl, rfl, g1, small4k (by rw [len_refs]; omega), ?_⟩
        have hD3H : H D3 = none := s4.free hD3
        have h32 : D3 ≠ D2 := fun z => by rw [z] at hD3; rw [hD3] at f1; cases f1
        have keep : ∀ b o, H2 b = some o → (upd H3 D3 (.lst (refs Lm ++ [.ref rb.1]))) b = some o := fun b o hb => by
          rw [upd_ne (ne_of_none hb hD3)]
          exact s5 _ _ hb
        have hclr : ∀ t : List Int, t.length = N → (LA.clear t rb.2 i).length = N := fun t ht => by
          unfold LA.clear
          split
          · exact ht
          · rw [LA.len_shorten]; simp [LA.mixed, ht]
        refine ⟨D2, D3, Ln, Lm ++ [(rb.1, rb.2)], some (.int (0 + i)), some (.int j), some (.ref rb.1), rfl, fun b o hb => ?_, hD2H, hD3H, h32, keep _ _ f1, ?_, fun y hy => keep _ _ (f2 y hy), fun y hy => ?_, ?_, ?_⟩
        · rw [upd_ne (ne_of_none hb hD3H)]
          exact s6 b o hb
        · rw [upd_same]; simp [refs]
        · rcases List.mem_append.mp hy with hy | hy
          · have h1 := g2 y hy
            rw [upd_ne (fun z => by
              rw [z, g1] at h1
              have h0 := refs_ints (HO.lst.inj (Option.some.inj h1))
              have hm : y.2 ∈ Lm.map (·.2) := List.mem_map.mpr ⟨y, hy, rfl⟩
              rw [g3] at hm
              obtain ⟨t, ht, et⟩ := List.mem_map.mp hm
              obtain ⟨r', hr', rfl⟩ := List.mem_map.mp ht
              have := hclr _ (bK r' hr').1
              rw [et, h0] at this
              simp at this; omega)]
            exact h1
          · simp at hy; subst hy
            exact keep _ _ rb2
        · rw [hturn, f3, er_map]
        · rw [hturn, List.map_append, g3]
          rfl
    · rintro σ H' ⟨ll, kk, Ll, Lk, v4, v5, v6, rfl, s1, hll, hkk, hkl, e1, e2, r1', r2', q1, q2⟩
      exact ⟨_, rfl, k H' kk Lk s1 hkk e2 r2' q2⟩
end LF
end
section
set_option maxRecDepth 100000
set_option maxHeartbeats 4000000
namespace LF
open PySem PySem.Spec PyProof.Rows L2
variable {P : Program} {w : World} {K : PySem.W.Frag} {mg : Str → Option Value} {base : Heap}
/-! any of a list of whole numbers -/
theorem truth_ints {prog : Program} {w : World} {A : Around} {ns : List Int} {its : List Value} (hi : IntsAre its ns) : TruthOf prog w A (fun i v => its.toArray[i]? = some v) (fun i => ns.getD i 0 != 0) := fun i v s Q E hv hq => by
  obtain ⟨t, rfl⟩ := ints_at hi i v hv
  exact PySem.P.truthy_int hq
theorem any_at : ∀ ns : List Int, (List.range ns.length).any (fun i => ns.getD i 0 != 0) = ns.any fun z => z != 0
  | [] => rfl
  | z :: ns => by
    have ih := any_at ns
    rw [List.length_cons, List.range_succ_eq_map, List.any_cons, List.any_map, List.any_cons, ← ih]
    rfl
def rAnyI (K : PySem.W.Frag) : List V → Hp → VK → Prop := fun vs H Q => ∃ (a : Addr) (ns : List Int), vs = [V.ref a] ∧ SqL K H a (ns.map V.int) ∧ Q (.bl (ns.any fun z => z != 0)) H
theorem cr_anyI {X : Cx} (hc : X.calm = true) : CallR X (.builtin "any") (rAnyI X.K) := by
  intro pins st σ H xs us Q Iv rr hh
  obtain ⟨a, ns, rfl, hs, q⟩ := hh
  obtain ⟨its, rv, hl, _⟩ := Iv.list hs
  rw [Vals.ref1 rr]
  have hi : IntsAre its ns := rv.ints
  have hlen : its.length = ns.length := hi.length
  refine call_any_walk (iter_any hl.isList fun s2 e2 at2 hne => ?_)
  subst e2
  refine ⟨_, _, _, _, _, _, _, rfl, Walks.list (A := X.A.in1) (Iv.ok.hd hc) _ a hne its.toArray, at2, truth_ints hi, fun h' tk hk => ?_⟩
  refine ⟨.bl _, H, Iv.kept fun b o eo => hk b o (fun hm => ?_) (Heap.get?_push_of_some _ eo), ?_, q⟩
  · rcases List.mem_cons.mp hm with e1 | hm
    · exact absurd (e1 ▸ Heap.lt_size eo) (Nat.lt_irrefl _)
    · cases hm
  · show Value.bool _ = Value.bool _
    rw [← any_at, List.size_toArray, hlen]
theorem bd_of_lt {row : List Int} {a k : Nat} (h : ∀ j, (LA.fi row j).natAbs < 2 ^ a) (hk : a ≤ k) : Bd k row := by
  intro z hz
  obtain ⟨j, hj, e⟩ := List.getElem_of_mem hz
  have := h j
  rw [show LA.fi row j = z by simp [LA.fi, List.getD_eq_getElem?_getD, List.getElem?_eq_getElem hj, e]] at this
  exact Nat.lt_of_lt_of_le this (Nat.pow_le_pow_right (by decide) hk)
/-! ### is_made_of -/
abbrev sIm : Stmt := top 27
def NIm : List Str := ["row", "rows", "by"]
theorem scIm : FnScope NIm ["row", "rows"] (defScope sIm) := ⟨rfl, rfl, rfl, by decide +kernel, rfl, by decide +kernel, by decide +kernel⟩
/-- is_made_of -/
def spIm : Sp := fun vs H Q _ => ∃ (r l : Addr) (row : List Int) (R : List (Addr × List Int)) (N m : Nat), vs = [.ref r, .ref l] ∧ H r = some (.lst (row.map V.int)) ∧ H l = some (.lst (refs R)) ∧ RL H R ∧ row.length = N ∧ N ≤ 1000 ∧
  (∀ x ∈ R, x.2.length = N ∧ LA.fi x.2 (LA.lead x.2) ≠ 0 ∧ ∀ j, (LA.fi x.2 j).natAbs < 2 ^ m) ∧ (∀ j, (LA.fi row j).natAbs < 2 ^ 10) ∧ 10 + R.length * (m + 1) ≤ 60000000 ∧ m ≤ 60000000 ∧
  ∀ H' : Hp, Same H H' → Q (.bl (!((LA.clearAll (R.map (·.2)) row).any fun z => z != 0))) H'
theorem ok_im {f : Addr} {fd : FuncData} (F : Fun K "is_made_of" "is_made_of" sIm f fd) (B : Bi mg) (cC : Cal P w K mg base "cleared" 41 ["row", "by", "place"] spCl) (cF : Cal P w K mg base "first_place" 1 ["row"] spFn) :
    FnOk P w K mg base CX0 42 f fd ["row", "rows"] spIm := by
  refine F.ok scIm (fun vs H Q E h => ?_) (fun cdv A outer s H vs Q E hr h => ?_)
  · obtain ⟨r, l, row, R, N, m, rfl, _⟩ := h
    rfl
  · have nd : NIm.Nodup := scIm.nd
    have hr1 : Room 1 _ := hr.mono (by decide)
    obtain ⟨r, l, row, R, N, m, rfl, h1, h2, rl, hN, n9, hR, hb, hk, m9, k⟩ := h
    refine ⟨_, pss_cons (ps_for PassesOwn.never rfl (pi_list (pv 1)) (pg_name (i := 2) nd rfl (Or.inl rfl))
        (pss_one (ps_set (i := 0) nd rfl (Or.inl rfl) (pe_call cC.ok hr (by rfl) cC.mgx cC.kp cC.b .nil pass0 (pa_cons (pv 0) (pa_cons (pv 2) (pa_cons (pe_call cF.ok hr1 (by rfl) cF.mgx cF.kp cF.b .nil pass0 (pa_cons (pv 2) pa_nil)) pa_nil)))))))
      (pss_one (ps_ret (pe_not (pe_callB (cr_anyI rfl) (by rfl) B.any (by decide +kernel) (pa_cons (pv 0) pa_nil))))), ?_⟩
    have facts : ∀ i, (LA.clearAll ((R.take i).map (·.2)) row).length = N ∧ ∀ j, (LA.fi (LA.clearAll ((R.take i).map (·.2)) row) j).natAbs < 2 ^ 60000000 := fun i => by
      obtain ⟨a1, a2⟩ := LA.clearAll_lt (N := N) (m := m) ((R.take i).map (·.2)) row 10 (fun b hb' => by
        obtain ⟨x, hx, rfl⟩ := List.mem_map.mp hb'
        exact hR x (List.mem_of_mem_take hx)) hN hb
      refine ⟨a1, fun j => Nat.lt_of_lt_of_le (a2 j) (Nat.pow_le_pow_right (by decide) ?_)⟩
      rw [List.length_map, List.length_take]
      have : min i R.length * (m + 1) ≤ R.length * (m + 1) := Nat.mul_le_mul_right _ (by omega)
      omega
    refine ⟨_, rfl, l, rfl, ⟨_, SqL.of h2⟩, for_list (K := K) (a := l) (xs := refs R) (fun i σ H' => ∃ (r' : Addr) (v : Option V), σ = [some (.ref r'), some (.ref l), v] ∧ Same H H' ∧ H' r' = some (.lst ((LA.clearAll ((R.take i).map (·.2)) row).map V.int)))
      ⟨r, none, rfl, Same.refl _, h1⟩ (fun i σ H' _ ⟨_, _, _, s1, _⟩ => SqL.of (s1 _ _ h2)) ?_ ?_⟩
    · rintro i x σ H' hx ⟨r', v, rfl, s1, e1⟩
      obtain ⟨q, hq, rfl⟩ := refs_at hx
      have hqm := List.mem_of_getElem? hq
      obtain ⟨q1, q2, q3⟩ := hR q hqm
      have hqr := s1 _ _ (rl q hqm)
      obtain ⟨f1, f2⟩ := facts i
      refine ⟨_, rfl, _, rfl, _, rfl, q.1, q.2, rfl, hqr, q2, by omega, ?_⟩
      refine ⟨r', q.1, _, q.2, LA.lead q.2, 60000000, rfl, e1, hqr, bd_of_lt f2 (Nat.le_refl _), bd_of_lt q3 m9, by decide, Nat.le_refl _, by rw [f1, q1], ?_, by rw [f1]; exact n9, fun H2 p s2 e2 => ?_⟩
      · rw [f1, ← q1]
        exact lead_len q2
      · refine ⟨p, _, rfl, s1.trans s2, ?_⟩
        have et : (R.take (i + 1)).map (·.2) = (R.take i).map (·.2) ++ [q.2] := by rw [List.take_add_one, hq, List.map_append]; rfl
        rw [e2, et]
        unfold LA.clearAll
        rw [List.foldl_append]
        rfl
    · rintro σ H' ⟨r', v, rfl, s1, e1⟩
      rw [len_refs, List.take_length] at e1
      exact ⟨_, rfl, r', _, rfl, SqL.of e1, _, rfl, k H' s1⟩
end LF
end
section
set_option maxRecDepth 100000
set_option maxHeartbeats 4000000
namespace LF
open PySem PySem.Spec PyProof.Rows L2
variable {P : Program} {w : World} {K : PySem.W.Frag} {mg : Str → Option Value} {base : Heap}
/-- the group at g -/
structure GrOk (H : Hp) (n : Nat) (g : Addr) (G : List (Addr × List Int)) : Prop where
  hn : n = 2 ∨ n = 3
  at_ : H g = some (.lst (refs G))
  tl : TL H G
  ok : ∀ p ∈ G, p.2.length = n * n ∧ ∀ z ∈ p.2, z.natAbs < 2 ^ 200
  one : 1 ≤ G.length
  few : G.length ≤ 48
theorem GrOk.same {H H' : Hp} {n : Nat} {g : Addr} {G : List (Addr × List Int)} (h : GrOk H n g G) (s : Same H H') : GrOk H' n g G := ⟨h.hn, s _ _ h.at_, h.tl.same s, h.ok, h.one, h.few⟩
theorem GrOk.le {H : Hp} {n : Nat} {g : Addr} {G : List (Addr × List Int)} (h : GrOk H n g G) {d : Nat} (hd : d ≤ 8) : ∀ r ∈ LA.sumRows n d (G.map (·.2)), ∀ j, (LA.fi r j).natAbs ≤ 2 ^ 1700 := by
  refine LA.sumRows_le h.hn (fun t ht => ?_) (fun t ht => ?_) (by rw [List.length_map]; exact h.few) hd
  · obtain ⟨p, hp, rfl⟩ := List.mem_map.mp ht
    exact (h.ok p hp).1
  · obtain ⟨p, hp, rfl⟩ := List.mem_map.mp ht
    exact (h.ok p hp).2
/-- the sum so far -/
def combK (n d : Nat) (g : List (List Int)) (r : List Int) (m : Nat) : List Int := (List.range (Wp04.monos n d).length).map fun k => ((List.range m).map fun i => LA.fi r i * LA.fi (LA.sumRow n d g (LA.mk n d i)) k).sum
theorem combK_len (n d : Nat) (g : List (List Int)) (r : List Int) (m : Nat) : (combK n d g r m).length = (Wp04.monos n d).length := by simp [combK]
theorem combK_zero (n d : Nat) (g : List (List Int)) (r : List Int) : combK n d g r 0 = List.replicate (Wp04.monos n d).length 0 := by
  unfold combK
  simp only [List.range_zero, List.map_nil, List.sum_nil]
  rw [List.map_const', List.length_range]
theorem combK_succ (n d : Nat) (g : List (List Int)) (r : List Int) (m : Nat) : combK n d g r (m + 1) = (List.range (Wp04.monos n d).length).map fun j => LA.fi (combK n d g r m) j + LA.fi r m * LA.fi (LA.sumRow n d g (LA.mk n d m)) j := by
  unfold combK
  apply List.map_congr_left
  intro k hk
  rw [LA.fi_range _ _ _ (List.mem_range.mp hk), List.range_succ, List.map_append, List.sum_append]
  simp
abbrev sSo : Stmt := top 30
def NSo : List Str := ["n", "group", "d", "polynomial", "total", "sums", "i", "j"]
theorem scSo : FnScope NSo ["n", "group", "d", "polynomial"] (defScope sSo) := ⟨rfl, rfl, rfl, by decide +kernel, rfl, by decide +kernel, by decide +kernel⟩
/-- sum_of_moved -/
def spSo : Sp := fun vs H Q _ => ∃ (n : Nat) (g : Addr) (G : List (Addr × List Int)) (d : Nat) (a : Addr) (r : List Int), vs = [.int n, .ref g, .int d, .ref a] ∧ GrOk H n g G ∧ d ≤ 8 ∧ H a = some (.lst (r.map V.int)) ∧ r.length = (Wp04.monos n d).length ∧ (∀ z ∈ r, z.natAbs ≤ 1000) ∧
  ∀ (H' : Hp) (p : Addr), Same H H' → H p = none → H' p = some (.lst ((LA.comb n d (G.map (·.2)) r).map V.int)) → Q (.ref p) H'
theorem le1000 {r : List Int} (h : ∀ z ∈ r, z.natAbs ≤ 1000) (i : Nat) : (LA.fi r i).natAbs ≤ 1000 := by
  unfold LA.fi
  rw [List.getD_eq_getElem?_getD]
  cases e : r[i]? with
  | none => simp
  | some z => exact h z (List.mem_of_getElem? e)
theorem ok_so {f : Addr} {fd : FuncData} (F : Fun K "sum_of_moved" "sum_of_moved" sSo f fd) (B : Bi mg) (cS : Cal P w K mg base "sums_of_moved" 4 ["n", "group", "d"] spSm) :
    FnOk P w K mg base CX0 5 f fd ["n", "group", "d", "polynomial"] spSo := by
  refine F.ok scSo (fun vs H Q E h => ?_) (fun cdv A outer s H vs Q E hr h => ?_)
  · obtain ⟨n, g, G, d, a, r, rfl, _⟩ := h
    rfl
  · have nd : NSo.Nodup := scSo.nd
    obtain ⟨n, g, G, d, a, r, rfl, gr, hd, ha, lr, br, k⟩ := h
    refine ⟨_, pss_cons (ps_set (i := 4) nd rfl (Or.inr rfl) (pe_op op_rep (pe_lst (pa_cons pe_int pa_nil)) (pe_callB call_len_seq (by rfl) B.len PySem.boot_len (pa_cons (pv 3) pa_nil))))
      (pss_cons (ps_set (i := 5) nd rfl (Or.inr rfl) (pe_call cS.ok hr (by rfl) cS.mgx cS.kp cS.b .nil pass0 (pa_cons (pv 0) (pa_cons (pv 1) (pa_cons (pv 2) pa_nil)))))
      (pss_cons (ps_for PassesOwn.never rfl (pi_range1 (by rfl) B.range (pa_cons (pe_callB call_len_seq (by rfl) B.len PySem.boot_len (pa_cons (pv 3) pa_nil)) pa_nil)) (pg_name (i := 6) nd rfl (Or.inr rfl))
        (pss_one (ps_set (i := 4) nd rfl (Or.inr rfl) (pe_lc (own := [("j", 7)]) (g := gName 7) (tt := tYes) rfl nd (pi_range1 (by rfl) B.range (pa_cons (pe_callB call_len_seq (by rfl) B.len PySem.boot_len (pa_cons (pv 4) pa_nil)) pa_nil))
          (blkOk_by (N := NSo) (sc := defScope sSo) (by decide +kernel)) (fun _ _ _ _ _ => pg_name (i := 7) nd rfl (Or.inl rfl)) (fun _ _ _ _ _ => pts_nil)
          (fun _ _ _ _ _ => pe_op op_add (pe_ix (r := rIxL K) ix_list (pv 4) (pv 7) (fun _ _ => rfl)) (pe_op op_mul (pe_ix (r := rIxL K) ix_list (pv 3) (pv 6) (fun _ _ => rfl)) (pe_ix (r := rIxL K) ix_list (pe_ix (r := rIxL K) ix_list (pv 5) (pv 6) (fun _ _ => rfl)) (pv 7) (fun _ _ => rfl))))))))
      (pss_one (ps_ret (pv 4))))), ?_⟩
    obtain ⟨m1, m2⟩ := LA.monos_small gr.hn hd
    refine ⟨show 1 ≤ sizeLine by decide, fun z hz => ?_⟩
    have sz : Same H (upd H z (.lst [.int 0])) := same_upd hz
    refine ⟨_, rfl, a, _, rfl, .inl (SqL.of (sz _ _ ha)), z, _, _, rfl, rfl, upd_same, by omega, by rw [List.length_map]; omega, ?_, fun q hq => ?_⟩
    · rw [List.length_map, Int.toNat_natCast]
      exact Nat.le_of_lt (small1000 (by simp; omega))
    have er : (List.replicate ((((r.map V.int).length : Nat) : Int)).toNat [V.int 0]).flatten = (combK n d (G.map (·.2)) r 0).map V.int := by
      rw [combK_zero, List.length_map, Int.toNat_natCast, lr, List.map_replicate]
      generalize (Wp04.monos n d).length = m
      induction m with
      | zero => rfl
      | succ m ih => rw [List.replicate_succ, List.flatten_cons, ih, List.replicate_succ]; rfl
    rw [er]
    have s1 : Same H (upd (upd H z (.lst [.int 0])) q (.lst ((combK n d (G.map (·.2)) r 0).map V.int))) := sz.trans (same_upd hq)
    have hqH : H q = none := sz.free hq
    generalize hH1 : upd (upd H z (.lst [.int 0])) q (.lst ((combK n d (G.map (·.2)) r 0).map V.int)) = H1 at s1
    have e1 : H1 q = some (.lst ((combK n d (G.map (·.2)) r 0).map V.int)) := by rw [← hH1]; exact upd_same
    refine ⟨_, rfl, _, rfl, _, rfl, n, g, G, d, rfl, gr.hn, hd, s1 _ _ gr.at_, gr.tl.same s1, gr.ok, fun H2 sm R s2 hsm e2 rl2 q2 => ?_⟩
    have s02 : Same H H2 := s1.trans s2
    refine ⟨_, rfl, a, _, rfl, .inl (SqL.of (s02 _ _ ha)), _, rfl, by omega, by rw [List.length_map]; omega, ?_⟩
    rw [List.length_map, Int.toNat_natCast, lr]
    have hRl : R.length = (Wp04.monos n d).length := by
      have := congrArg List.length q2
      simpa [LA.sumRows] using this
    have hat : ∀ (i : Nat) (x : Addr × List Int), R[i]? = some x → x.2 = LA.sumRow n d (G.map (·.2)) (LA.mk n d i) ∧ x.2 ∈ LA.sumRows n d (G.map (·.2)) := fun i x hx => by
      have hi := (List.getElem?_eq_some_iff.mp hx).1
      have := congrArg (fun l => l[i]?) q2
      have hi2 : i < (Wp04.monos n d).length := by omega
      simp only [List.getElem?_map, hx, LA.sumRows, List.getElem?_eq_getElem hi2] at this
      have e : x.2 = LA.sumRow n d (G.map (·.2)) (Wp04.monos n d)[i] := Option.some.inj this
      refine ⟨?_, by rw [← q2]; exact List.mem_map_of_mem (List.mem_of_getElem? hx)⟩
      rw [e]
      simp [LA.mk, List.getD_eq_getElem?_getD, List.getElem?_eq_getElem hi2]
    refine for_range (lo := 0) (n := (Wp04.monos n d).length) (fun i σ H' => ∃ (t : Addr) (v6 : Option V), σ = [some (.int n), some (.ref g), some (.int d), some (.ref a), some (.ref t), some (.ref sm), v6, none] ∧ Same H2 H' ∧ H t = none ∧ H' t = some (.lst ((combK n d (G.map (·.2)) r i).map V.int)))
      ⟨q, none, rfl, Same.refl _, hqH, s2 _ _ e1⟩ ?_ ?_
    · rintro i σ H' hi ⟨t, v6, rfl, s3, ht, e3⟩
      obtain ⟨x, hx⟩ : ∃ x, R[i]? = some x := ⟨_, List.getElem?_eq_getElem (by omega)⟩
      obtain ⟨ex, hxm⟩ := hat i x hx
      have lx : x.2.length = (Wp04.monos n d).length := LA.sumRows_len _ hxm
      have lc := combK_len n d (G.map (·.2)) r i
      refine ⟨_, rfl, t, _, rfl, .inl (SqL.of e3), _, rfl, by omega, by rw [List.length_map]; omega, ?_⟩
      rw [List.length_map, lc, Int.toNat_natCast]
      intro D hD
      refine lc_range (lo := 0) (fun j H4 => Same H' H4 ∧ H4 D = some (.lst (((List.range j).map fun j => LA.fi (combK n d (G.map (·.2)) r i) j + LA.fi r i * LA.fi x.2 j).map V.int))) ⟨same_upd hD, by rw [upd_same]; rfl⟩ ?_ ?_
      · rintro j H4 hj ⟨s4, e4⟩
        refine ⟨rfl, ?_⟩
        refine ⟨_, rfl, _, rfl, t, _, _, _, rfl, rfl, SqL.of (s4 _ _ e3), at_of (j := j) (by omega) (getD_map (by omega)), ?_⟩
        refine ⟨_, rfl, _, rfl, a, _, _, _, rfl, rfl, SqL.of (s4 _ _ (s3 _ _ (s02 _ _ ha))), at_of (j := i) (by omega) (getD_map (by omega)), ?_⟩
        refine ⟨_, rfl, _, rfl, sm, _, _, _, rfl, rfl, SqL.of (s4 _ _ (s3 _ _ e2)), at_of (j := i) (by omega) (at_refs hx), ?_⟩
        refine ⟨_, rfl, x.1, _, _, _, rfl, rfl, SqL.of (s4 _ _ (s3 _ _ (rl2.at hx))), at_of (j := j) (by omega) (getD_map (by omega)), ?_⟩
        have b1 : (r.getD i 0).natAbs ≤ 1000 := le1000 br i
        refine ⟨_, _, rfl, rfl, .inl ⟨by omega, by omega⟩, ?_⟩
        refine ⟨_, _, rfl, rfl, ?_⟩
        refine ⟨_, e4, small1000 (by simp; omega), fun b' o hb => ?_, ?_⟩
        · rw [upd_ne (ne_of_none hb hD)]
          exact s4 b' o hb
        · rw [upd_same, List.range_succ, List.map_append, List.map_append]
          rfl
      · rintro H4 ⟨s4, e4⟩
        refine ⟨D, some (.int (0 + i)), rfl, s3.trans s4, (s02.trans s3).free hD, ?_⟩
        rw [e4, combK_succ, ex]
    · rintro σ H' ⟨t, v6, rfl, s3, ht, e3⟩
      exact ⟨_, rfl, k H' t (s02.trans s3) ht e3⟩
/-! ### is_left_alone -/
theorem shaped_list (t : List Int) : SeqAt.shaped (.list (t.map PyData.int)) = true := by
  unfold SeqAt.shaped
  rw [PyData.canLay0, lay_ints, PyData.depth, depth_ints]
  rfl
theorem eqv_lists (t u : List Int) : PyData.eqv (.list (t.map PyData.int)) (.list (u.map PyData.int)) = decide (t = u) := by
  rw [PyData.eqv]
  exact eqv_ints t u
abbrev sIl : Stmt := top 31
def NIl : List Str := ["n", "group", "d", "polynomial", "number"]
theorem scIl : FnScope NIl ["n", "group", "d", "polynomial"] (defScope sIl) := ⟨rfl, rfl, rfl, by decide +kernel, rfl, by decide +kernel, by decide +kernel⟩
/-- is_left_alone -/
def spIl : Sp := fun vs H Q _ => ∃ (n : Nat) (g : Addr) (G : List (Addr × List Int)) (d : Nat) (a : Addr) (r : List Int), vs = [.int n, .ref g, .int d, .ref a] ∧ GrOk H n g G ∧ d ≤ 8 ∧ H a = some (.lst (r.map V.int)) ∧ r.length = (Wp04.monos n d).length ∧ (∀ z ∈ r, z.natAbs ≤ 1000) ∧
  ∀ H' : Hp, Same H H' → Q (.bl (LA.leftB n d (G.map (·.2)) r)) H'
theorem ok_il {f : Addr} {fd : FuncData} (F : Fun K "is_left_alone" "is_left_alone" sIl f fd) (B : Bi mg) (cS : Cal P w K mg base "sum_of_moved" 5 ["n", "group", "d", "polynomial"] spSo) :
    FnOk P w K mg base CX0 6 f fd ["n", "group", "d", "polynomial"] spIl := by
  refine F.ok scIl (fun vs H Q E h => ?_) (fun cdv A outer s H vs Q E hr h => ?_)
  · obtain ⟨n, g, G, d, a, r, rfl, _⟩ := h
    rfl
  · have nd : NIl.Nodup := scIl.nd
    obtain ⟨n, g, G, d, a, r, rfl, gr, hd, ha, lr, br, k⟩ := h
    refine ⟨_, pss_one (ps_ret (pe_cmpR (r := rEqD K) (op_eqD hr.units) (pe_call cS.ok hr (by rfl) cS.mgx cS.kp cS.b .nil pass0 (pa_cons (pv 0) (pa_cons (pv 1) (pa_cons (pv 2) (pa_cons (pv 3) pa_nil)))))
      (pe_lc (own := [("number", 4)]) (g := gName 4) (tt := tYes) rfl nd (pi_list (pv 3))
          (blkOk_by (N := NIl) (sc := defScope sIl) (by decide +kernel)) (fun _ _ _ _ _ => pg_name (i := 4) nd rfl (Or.inl rfl)) (fun _ _ _ _ _ => pts_nil)
          (fun _ _ _ _ _ => pe_op op_mul (pv 4) (pe_callB (r := fun xs H Q => ∃ p ys, xs = [.ref p] ∧ (SqL K H p ys ∨ SqT K H p ys) ∧ Q (.int ys.length) H) call_len_seq (by rfl) B.len PySem.boot_len (pa_cons (pv 1) pa_nil)))) (nomark _))), ?_⟩
    obtain ⟨m1, m2⟩ := LA.monos_small gr.hn hd
    refine ⟨_, rfl, _, rfl, _, rfl, _, rfl, n, g, G, d, a, r, rfl, gr, hd, ha, lr, br, fun H1 p s1 hp e1 => ?_⟩
    refine ⟨_, rfl, a, rfl, ⟨_, SqL.of (s1 _ _ ha)⟩, fun D hD => ?_⟩
    refine lc_list (K := K) (a := a) (xs := r.map V.int) (fun i H2 => Same H1 H2 ∧ H2 D = some (.lst (((r.take i).map fun z => z * (G.length : Int)).map V.int))) ⟨same_upd hD, by rw [upd_same]; simp⟩ (fun i H2 _ ⟨s2, _⟩ => SqL.of (s2 _ _ (s1 _ _ ha))) ?_ ?_
    · rintro i x H2 hx ⟨s2, e2⟩
      obtain ⟨z, hz, rfl⟩ := row_at hx
      have hi := (List.getElem?_eq_some_iff.mp hz).1
      have bz := br z (List.mem_of_getElem? hz)
      refine ⟨rfl, ?_⟩
      refine ⟨_, rfl, _, rfl, g, _, rfl, .inl (SqL.of (s2 _ _ (s1 _ _ gr.at_))), ?_⟩
      rw [len_refs]
      refine ⟨_, _, rfl, rfl, .inl ⟨by omega, by omega⟩, ?_⟩
      refine ⟨_, e2, small1000 (by simp; omega), fun b o hb => ?_, ?_⟩
      · rw [upd_ne (ne_of_none hb hD)]
        exact s2 b o hb
      · rw [upd_same, List.take_add_one, hz]
        simp
    · rintro H2 ⟨s2, e2⟩
      rw [List.length_map, List.take_length] at e2
      refine ⟨.list _, .list _, .lst (SqL.of (s2 _ _ e1)) (dpInts _), .lst (SqL.of e2) (dpInts _), shaped_list _, shaped_list _, ?_⟩
      rw [eqv_lists]
      have := k H2 (s1.trans s2)
      unfold LA.leftB at this
      rw [List.length_map] at this
      exact this
/-! ### rows_that_stay -/
abbrev sRs : Stmt := top 32
def NRs : List Str := ["n", "group", "d"]
theorem scRs : FnScope NRs ["n", "group", "d"] (defScope sRs) := ⟨rfl, rfl, rfl, by decide +kernel, rfl, by decide +kernel, by decide +kernel⟩
/-- rows_that_stay -/
def spRs : Sp := fun vs H Q _ => ∃ (n : Nat) (g : Addr) (G : List (Addr × List Int)) (d : Nat), vs = [.int n, .ref g, .int d] ∧ GrOk H n g G ∧ d ≤ LA.most n ∧
  ∀ (H' : Hp) (p : Addr) (R : List (Addr × List Int)), Same H H' → H p = none → H' p = some (.lst (refs R)) → RL H' R → R.map (·.2) = LA.stayZ n (G.map (·.2)) d → Q (.ref p) H'
theorem ok_rs {f : Addr} {fd : FuncData} (F : Fun K "rows_that_stay" "rows_that_stay" sRs f fd) (cS : Cal P w K mg base "sums_of_moved" 4 ["n", "group", "d"] spSm) (cF : Cal P w K mg base "fewest_rows" 42 ["rows"] spFr) :
    FnOk P w K mg base CX0 43 f fd ["n", "group", "d"] spRs := by
  refine F.ok scRs (fun vs H Q E h => ?_) (fun cdv A outer s H vs Q E hr h => ?_)
  · obtain ⟨n, g, G, d, rfl, _⟩ := h
    rfl
  · have nd : NRs.Nodup := scRs.nd
    have hr4 : Room 4 _ := hr.mono (by decide)
    obtain ⟨n, g, G, d, rfl, gr, hd, k⟩ := h
    refine ⟨_, pss_one (ps_ret (pe_call cF.ok hr (by rfl) cF.mgx cF.kp cF.b .nil pass0 (pa_cons (pe_call cS.ok hr4 (by rfl) cS.mgx cS.kp cS.b .nil pass0 (pa_cons (pv 0) (pa_cons (pv 1) (pa_cons (pv 2) pa_nil)))) pa_nil))), ?_⟩
    have d8 : d ≤ 8 := Nat.le_trans (LA.most_bnd hd) LA.bnd8
    obtain ⟨m1, m2⟩ := LA.monos_21 gr.hn hd
    refine ⟨_, rfl, _, rfl, _, rfl, n, g, G, d, rfl, gr.hn, d8, gr.at_, gr.tl, gr.ok, fun H1 p1 R s1 n1 h1 r1 e1 => ?_⟩
    have inR : ∀ r ∈ R, r.2 ∈ LA.sumRows n d (G.map (·.2)) := fun r hr' => by
      rw [← e1]
      exact List.mem_map_of_mem hr'
    have lR : R.length = (Wp04.monos n d).length := by
      rw [← List.length_map (f := (·.2)), e1, LA.sumRows, List.length_map]
    refine ⟨p1, R, (Wp04.monos n d).length, 2 ^ 1700, 40000, rfl, h1, r1, fun r hr' => LA.sumRows_len _ (inR r hr'), by omega, m1, by omega, Nat.one_le_two_pow, fun r hr' => gr.le d8 _ (inR r hr'), LA.pow40 m2, by decide, by decide, fun H2 p2 G2 s2 n2 h2 r2 e2 => ?_⟩
    rw [e1] at e2
    exact k H2 p2 G2 (s1.trans s2) (s1.free n2) h2 r2 e2
end LF
end
section
set_option maxRecDepth 100000
set_option maxHeartbeats 4000000
namespace LF
open PySem PySem.Spec PyProof.Rows L2
variable {P : Program} {w : World} {K : PySem.W.Frag} {mg : Str → Option Value} {base : Heap}
/-! ### polynomial_of -/
abbrev sPf : Stmt := top 15
def NPf : List Str := ["order", "row", "polynomial", "j"]
theorem scPf : FnScope NPf ["order", "row"] (defScope sPf) := ⟨rfl, rfl, rfl, by decide +kernel, rfl, by decide +kernel, by decide +kernel⟩
theorem dput_new {D : LA.DP} {m : List Nat} {c : Int} (h : m ∉ D.map (·.1)) : LA.dput D m c = D ++ [(m, c)] := by
  unfold LA.dput
  rw [if_neg fun z => h (LA.any_key.mp z)]
/-- the monomials at their addresses -/
theorem mono_at {n d : Nat} {Lo : List (Addr × List Int)} (q : Lo.map (·.2) = (Wp04.monos n d).map toI) {i : Nat} {p : Addr × List Int} (hp : Lo[i]? = some p) : p.2 = toI (LA.mk n d i) ∧ LA.mk n d i ∈ Wp04.monos n d := by
  have hi := (List.getElem?_eq_some_iff.mp hp).1
  have hl := congrArg List.length q
  rw [List.length_map, List.length_map] at hl
  have := congrArg (fun l => l[i]?) q
  simp only [List.getElem?_map, hp] at this
  have hi2 : i < (Wp04.monos n d).length := by omega
  rw [List.getElem?_eq_getElem hi2] at this
  refine ⟨?_, LA.mk_mem hi2⟩
  have e : p.2 = toI (Wp04.monos n d)[i] := Option.some.inj this
  rw [e]
  simp [LA.mk, List.getD_eq_getElem?_getD, List.getElem?_eq_getElem hi2]
/-- polynomial_of -/
def spPf : Sp := fun vs H Q _ => ∃ (o r : Addr) (Lo : List (Addr × List Int)) (n d : Nat) (row : List Int), vs = [.ref o, .ref r] ∧ H o = some (.lst (refs Lo)) ∧ TL H Lo ∧ Lo.map (·.2) = (Wp04.monos n d).map toI ∧ H r = some (.lst (row.map V.int)) ∧ row.length = (Wp04.monos n d).length ∧ row.length ≤ 900 ∧
  ∀ (H' : Hp) (p : Addr), Same H H' → H p = none → H' p = some (.dT (kd (LA.polyD n d row))) → Q (.ref p) H'
theorem ok_pf {f : Addr} {fd : FuncData} (F : Fun K "polynomial_of" "polynomial_of" sPf f fd) (B : Bi mg) : FnOk P w K mg base CX0 1 f fd ["order", "row"] spPf := by
  refine F.ok scPf (fun vs H Q E h => ?_) (fun cdv A outer s H vs Q E hr h => ?_)
  · obtain ⟨o, r, Lo, n, d, row, rfl, _⟩ := h
    rfl
  · have nd : NPf.Nodup := scPf.nd
    have hu := hu_of hr
    obtain ⟨o, r, Lo, n, d, row, rfl, ho, to, qo, hro, lr, l9, k⟩ := h
    refine ⟨_, pss_cons (ps_set (i := 2) nd rfl (Or.inl rfl) pe_dnewT)
      (pss_cons (ps_for PassesOwn.never rfl (pi_range1 (by rfl) B.range (pa_cons (pe_callB call_len_seq (by rfl) B.len PySem.boot_len (pa_cons (pv 0) pa_nil)) pa_nil)) (pg_name (i := 3) nd rfl (Or.inl rfl))
        (pss_one (ps_if (pt_cmpR op_ne (pe_ix (r := rIxL K) ix_list (pv 1) (pv 3) (fun _ _ => rfl)) pe_int (nomark _))
          (pss_one (ps_dput hu (pv 2) (pe_ix (r := rIxL K) ix_list (pv 0) (pv 3) (fun _ _ => rfl)) (pe_ix (r := rIxL K) ix_list (pv 1) (pv 3) (fun _ _ => rfl)) rfl)) pss_nil)))
      (pss_one (ps_ret (pv 2)))), ?_⟩
    intro pr hpr
    have s0 : Same H (upd H pr (.dT [])) := same_upd hpr
    have lo : Lo.length = row.length := by
      have := congrArg List.length qo
      rw [List.length_map, List.length_map] at this
      omega
    refine ⟨_, rfl, o, _, rfl, .inl (SqL.of (s0 _ _ ho)), _, rfl, by omega, by rw [len_refs]; omega, ?_⟩
    rw [len_refs, Int.toNat_natCast, lo]
    refine for_range (lo := 0) (n := row.length) (fun j σ H' => ∃ v, σ = [some (.ref o), some (.ref r), some (.ref pr), v] ∧ Same H H' ∧ H' pr = some (.dT (kd (LA.polyK (Wp04.monos n d) row j))))
      ⟨none, rfl, s0, upd_same⟩ ?_ ?_
    · rintro j σ H' hj ⟨v, rfl, s1, e1⟩
      refine ⟨_, rfl, _, rfl, r, _, _, _, rfl, rfl, SqL.of (s1 _ _ hro), at_of (j := j) (by omega) (getD_map hj), rfl, _, rfl, ?_⟩
      have eS := LA.polyK_succ (Wp04.monos n d) row j
      by_cases c : LA.fi row j = 0
      · refine ifF (by show (!decide (V.int (LA.fi row j) = V.int 0)) = false; rw [c]; simp) ?_
        rw [if_pos c] at eS
        exact ⟨some (.int (0 + j)), rfl, s1, by rw [eS]; exact e1⟩
      · refine ifT (by show (!decide (V.int (LA.fi row j) = V.int 0)) = true; simp [c]) ?_
        rw [if_neg c] at eS
        obtain ⟨po, hpo⟩ : ∃ po, Lo[j]? = some po := ⟨_, List.getElem?_eq_getElem (by omega)⟩
        obtain ⟨epo, mpo⟩ := mono_at qo hpo
        have tpo := s1 _ _ (to.at hpo)
        rw [epo] at tpo
        refine ⟨_, rfl, _, rfl, r, _, _, _, rfl, rfl, SqL.of (s1 _ _ hro), at_of (j := j) (by omega) (getD_map hj), ?_⟩
        refine ⟨_, rfl, _, rfl, _, rfl, o, _, _, _, rfl, rfl, SqL.of (s1 _ _ ho), at_of (j := j) (by omega) (at_refs hpo), ?_⟩
        have := LA.polyK_len (Wp04.monos n d) row j
        refine ⟨pr, _, rfl, DPut.t (k := mkey (LA.mk n d j)) e1 (by rw [mkeyV]; exact tpo) (small1000 (by simp [kd]; omega)), ?_⟩
        rw [kd_put, dput_new (show LA.mk n d j ∉ _ from LA.polyK_new (LA.nodup_monos n d) (by omega))]
        refine ⟨some (.int (0 + j)), rfl, fun b o' hb => ?_, ?_⟩
        · rw [upd_ne (ne_of_none hb hpr)]
          exact s1 b o' hb
        · rw [upd_same, eS]
          rfl
    · rintro σ H' ⟨v, rfl, s1, e1⟩
      refine ⟨_, rfl, k H' pr s1 hpr ?_⟩
      rw [lr] at e1
      exact e1
/-! ### product_of -/
theorem prod1_len (p : List Nat × Int) : ∀ (B P : LA.DP), (LA.prod1 p P B).length ≤ P.length + B.length
  | [], P => by simp [LA.prod1]
  | q :: B, P => by
    have h1 := prod1_len p B (LA.dadd P (LA.addM p.1 q.1) (p.2 * q.2))
    have h2 : (LA.dadd P (LA.addM p.1 q.1) (p.2 * q.2)).length ≤ P.length + 1 := dput_len ..
    have e : LA.prod1 p P (q :: B) = LA.prod1 p (LA.dadd P (LA.addM p.1 q.1) (p.2 * q.2)) B := rfl
    rw [e, List.length_cons]
    omega
theorem prodF_len (B : LA.DP) : ∀ (A P : LA.DP), (A.foldl (fun P p => LA.prod1 p P B) P).length ≤ P.length + A.length * B.length
  | [], P => by simp
  | p :: A, P => by
    have h1 := prodF_len B A (LA.prod1 p P B)
    have h2 := prod1_len p B P
    rw [List.foldl_cons, List.length_cons, Nat.add_mul]
    omega
theorem addM_at {a b : List Nat} (h : a.length = b.length) {i : Nat} (hi : i < a.length) : (toI (LA.addM a b)).take (i + 1) = (toI (LA.addM a b)).take i ++ [(toI a).getD i 0 + (toI b).getD i 0] := by
  have e : (toI (LA.addM a b))[i]? = some ((toI a).getD i 0 + (toI b).getD i 0) := by
    rw [toI_at, toI_at]
    unfold toI LA.addM
    have hb : i < b.length := by omega
    rw [List.getElem?_map, List.getElem?_map, List.getElem?_zip_eq_some (z := (a[i], b[i])) |>.mpr ⟨List.getElem?_eq_getElem hi, List.getElem?_eq_getElem hb⟩, List.getD_eq_getElem?_getD, List.getD_eq_getElem?_getD, List.getElem?_eq_getElem hi, List.getElem?_eq_getElem hb]
    simp
  rw [List.take_add_one, e]
  rfl
theorem addM_len {a b : List Nat} (h : a.length = b.length) : (LA.addM a b).length = a.length := by simp [LA.addM, h]
/-- a walk over what may be held already -/
def tLockOr (t : TS) : TS := fun D σ H => tLock t D σ H ∨ t D σ H
theorem ps_lockOr {X : Cx} {st : Stmt} {t : TS} (h : PS X st t) : PS X st (tLockOr t) := ⟨fun pins s σ H D I hw => hw.elim (fun y => (ps_lock h).run pins s σ H D I y) (fun y => h.run pins s σ H D I y)⟩
theorem lockOr {t : TS} {D : Ends} {σ : L2.St} {H : Hp} {pa pb pr : Addr} {oa : Obj} {A B Xe : HO} (S : L2.St → Prop) (ha : H pa = some (.frz oa A)) (hb : (pb ≠ pa ∧ H pb = some B) ∨ (pb = pa ∧ B = A)) (mB : Mut (some B)) (hpr : pr ≠ pb)
    (fin : ∀ σ' H', S σ' → (∀ b o, H b = some o → b ≠ pr → H' b = some o) → H' pr = some Xe → D.nx σ' H')
    (key : ∀ (ob : Obj) (Hx : Hp) (D2 : Ends), Hx pb = some (.frz ob B) → Hx pa = some (.frz oa A) → (∀ b o, H b = some o → b ≠ pb → Hx b = some o) → (∀ σ' H', S σ' → (∀ b o, Hx b = some o → b ≠ pr → H' b = some o) → H' pr = some Xe → D2.nx σ' H') → t D2 σ Hx) :
    tLockOr t D σ H := by
  rcases hb with ⟨hne, hb⟩ | ⟨rfl, rfl⟩
  · refine Or.inl ⟨pb, B, hb, mB, fun ob => ?_⟩
    refine key ob _ _ upd_same (by rw [upd_ne (fun z => hne z.symm)]; exact ha) (fun b o hbo hn => by rw [upd_ne hn]; exact hbo) fun σ' H' hs hk hp => ?_
    refine ⟨hk pb _ upd_same (fun z => hpr z.symm), fin σ' _ hs (fun b o hbo hn => ?_) (by rw [upd_ne hpr]; exact hp)⟩
    by_cases c : b = pb
    · subst c
      rw [upd_same, ← hb, hbo]
    · rw [upd_ne c]
      exact hk b o (by rw [upd_ne c]; exact hbo) hn
  · exact Or.inr (key oa H D ha ha (fun b o hbo _ => hbo) fin)
abbrev sPr : Stmt := top 16
def NPr : List Str := ["a", "b", "product", "one", "other", "both", "i"]
theorem scPr : FnScope NPr ["a", "b"] (defScope sPr) := ⟨rfl, rfl, rfl, by decide +kernel, rfl, by decide +kernel, by decide +kernel⟩
/-- product_of -/
def spPr : Sp := fun vs H Q _ => ∃ (pa pb : Addr) (A B : LA.DP) (n : Nat), vs = [.ref pa, .ref pb] ∧ H pa = some (.dT (kd A)) ∧ H pb = some (.dT (kd B)) ∧ (∀ p ∈ A, p.1.length = n ∧ p.2.natAbs < 2 ^ 400000) ∧ (∀ p ∈ B, p.1.length = n ∧ p.2.natAbs < 2 ^ 400000) ∧ n ≤ 10 ∧ A.length ≤ 50 ∧ B.length ≤ 50 ∧ (A.map (·.1)).Nodup ∧ (B.map (·.1)).Nodup ∧
  ∀ (H' : Hp) (p : Addr), Same H H' → H p = none → H' p = some (.dT (kd (LA.prodD A B))) → Q (.ref p) H'
theorem kd_inj : ∀ {A B : LA.DP}, kd A = kd B → A = B
  | [], [], _ => rfl
  | [], _ :: _, h => by cases h
  | _ :: _, [], h => by cases h
  | p :: A, q :: B, h => by
    unfold kd at h
    rw [List.map_cons, List.map_cons] at h
    injection h with h1 h2
    have e1 := congrArg Prod.fst h1
    have e2 := congrArg Prod.snd h1
    have e3 := mkey_inj e1
    have e4 : p.2 = q.2 := V.int.inj e2
    rw [kd_inj h2, Prod.ext e3 e4]
theorem ok_pr {f : Addr} {fd : FuncData} (F : Fun K "product_of" "product_of" sPr f fd) (B : Bi mg) : FnOk P w K mg base CX0 1 f fd ["a", "b"] spPr := by
  refine F.ok scPr (fun vs H Q E h => ?_) (fun cdv A outer s H vs Q E hr h => ?_)
  · obtain ⟨pa, pb, A, B, n, rfl, _⟩ := h
    rfl
  · have nd : NPr.Nodup := scPr.nd
    have hu := hu_of hr
    obtain ⟨pa, pb, DA, DB, n, rfl, hpa, hpb, hA, hB, n10, la, lb, na, nb, k⟩ := h
    refine ⟨_, pss_cons (ps_set (i := 2) nd rfl (Or.inl rfl) pe_dnewT)
      (pss_cons (ps_lock (ps_for PassesOwn.never rfl (pi_keys (pv 0)) (pg_name (i := 3) nd rfl (Or.inr rfl))
        (pss_one (ps_lockOr (ps_for PassesOwn.never rfl (pi_keys (pv 1)) (pg_name (i := 4) nd rfl (Or.inr rfl))
          (pss_cons (ps_set (i := 5) nd rfl (Or.inl rfl) (pe_callTy call_tuple_of (by rfl) B.tuple (by decide +kernel) (pa_cons
            (pe_lc (own := [("i", 6)]) (g := gName 6) (tt := tYes) rfl nd (pi_range1 (by rfl) B.range (pa_cons (pe_callB call_len_seq (by rfl) B.len PySem.boot_len (pa_cons (pv 3) pa_nil)) pa_nil))
              (blkOk_by (N := NPr) (sc := defScope sPr) (by decide +kernel)) (fun _ _ _ _ _ => pg_name (i := 6) nd rfl (Or.inl rfl)) (fun _ _ _ _ _ => pts_nil)
              (fun _ _ _ _ _ => pe_op op_add (pe_ix (r := rIxT K) ix_tup (pv 3) (pv 6) (fun _ _ => rfl)) (pe_ix (r := rIxT K) ix_tup (pv 4) (pv 6) (fun _ _ => rfl)))) pa_nil)))
          (pss_one (ps_dput hu (pv 2) (pv 5) (pe_op op_add (pe_dget2 hu (pv 2) (pv 5) pe_int ⟨rfl, rfl, rfl, rfl⟩) (pe_op op_mulW (pe_dget hu (pv 0) (pv 3) (fun _ _ => rfl)) (pe_dget hu (pv 1) (pv 4) (fun _ _ => rfl)))) rfl))))))))
      (pss_one (ps_ret (pv 2)))), ?_⟩
    intro pr hpr
    have hap : pa ≠ pr := ne_of_none hpa hpr
    have hbp : pb ≠ pr := ne_of_none hpb hpr
    have s0 : Same H (upd H pr (.dT [])) := same_upd hpr
    refine ⟨pa, .dT (kd DA), s0 _ _ hpa, trivial, fun oa => ?_⟩
    generalize hHf : upd (upd H pr (.dT [])) pa (.frz oa (.dT (kd DA))) = Hf
    have hf1 : Hf pa = some (.frz oa (.dT (kd DA))) := by rw [← hHf]; exact upd_same
    have hf2 : Hf pr = some (.dT []) := by rw [← hHf, upd_ne (fun z => hap z.symm)]; exact upd_same
    have hf3 : ∀ b o, H b = some o → b ≠ pa → Hf b = some o := fun b o hb hne => by rw [← hHf, upd_ne hne]; exact s0 b o hb
    refine ⟨_, rfl, pa, oa, rfl, .inr ⟨kd DA, hf1, ?_⟩⟩
    refine for_it walk_keysT (fun a σ H2 => ∃ v3 v4 v5, σ = [some (.ref pa), some (.ref pb), some (.ref pr), v3, v4, v5, none] ∧ (∀ b o, Hf b = some o → b ≠ pr → H2 b = some o) ∧ H2 pr = some (.dT (kd ((DA.take a).foldl (fun P p => LA.prod1 p P DB) []))))
      ⟨none, none, none, rfl, fun b o hb _ => hb, hf2⟩ (fun a σ H2 _ ⟨_, _, _, _, s1, _⟩ => s1 _ _ hf1 hap) ?_ ?_
    · rintro a x σ H2 H2' ha ⟨v3, v4, v5, rfl, s1, e1⟩ ⟨rfl, kk, vv, q, hkv, rfl, hq⟩
      have haD : a < DA.length := by simpa [kd] using ha
      obtain ⟨p, hpm'⟩ : ∃ p, DA[a]? = some p := ⟨_, List.getElem?_eq_getElem haD⟩
      have hpm := List.mem_of_getElem? hpm'
      have ek : kk = mkey p.1 ∧ vv = .int p.2 := by
        unfold kd at hkv
        rw [List.getElem?_map, hpm'] at hkv
        have := Option.some.inj hkv
        exact ⟨(congrArg Prod.fst this).symm, (congrArg Prod.snd this).symm⟩
      obtain ⟨rfl, rfl⟩ := ek
      rw [mkeyV] at hq
      have hqr : q ≠ pr := fun z => by rw [z, e1] at hq; cases hq
      have hlenA : ((DA.take a).foldl (fun P p => LA.prod1 p P DB) []).length ≤ 2500 := by
        have h1 := prodF_len DB (DA.take a) []
        have h2 : (DA.take a).length ≤ 50 := by rw [List.length_take]; omega
        have h3 : (DA.take a).length * DB.length ≤ 50 * 50 := Nat.mul_le_mul h2 lb
        rw [List.length_nil] at h1
        omega
      have et : (DA.take (a + 1)).foldl (fun P p => LA.prod1 p P DB) [] = LA.prod1 p ((DA.take a).foldl (fun P p => LA.prod1 p P DB) []) DB := by
        rw [List.take_add_one, hpm', List.foldl_append]
        rfl
      rw [et]
      generalize (DA.take a).foldl (fun P p => LA.prod1 p P DB) [] = A0 at e1 hlenA
      have hpa2 : H2' pa = some (.frz oa (.dT (kd DA))) := s1 _ _ hf1 hap
      refine lockOr (pa := pa) (pb := pb) (pr := pr) (oa := oa) (A := .dT (kd DA)) (B := .dT (kd DB)) (Xe := .dT (kd (LA.prod1 p A0 DB))) (fun σ' => ∃ v4 v5, σ' = [some (.ref pa), some (.ref pb), some (.ref pr), some (.ref q), v4, v5, none]) hpa2 ?_ trivial (fun z => hbp z.symm) ?_ ?_
      · by_cases c : pb = pa
        · refine Or.inr ⟨c, ?_⟩
          rw [c, hpa] at hpb
          exact (Option.some.inj hpb).symm
        · exact Or.inl ⟨c, s1 _ _ (hf3 _ _ hpb c) hbp⟩
      · rintro σ' H' ⟨v4, v5, rfl⟩ hk hx
        exact ⟨some (.ref q), v4, v5, rfl, fun b o hb hne => hk b o (s1 b o hb hne) hne, hx⟩
      · intro ob Hx D2 hxb hxa hxk fin2
        have hqb : q ≠ pb := fun z => by
          by_cases c : pb = pa
          · rw [z, c, hpa2] at hq; cases hq
          · rw [z, s1 _ _ (hf3 _ _ hpb c) hbp] at hq; cases hq
        have hqx : Hx q = some (.tup ((toI p.1).map V.int)) := hxk _ _ hq hqb
        have hprx : Hx pr = some (.dT (kd A0)) := hxk _ _ e1 (fun z => hbp z.symm)
        refine ⟨_, rfl, pb, ob, rfl, .inr ⟨kd DB, hxb, ?_⟩⟩
        refine for_it walk_keysT (fun c σ H3 => ∃ v4 v5, σ = [some (.ref pa), some (.ref pb), some (.ref pr), some (.ref q), v4, v5, none] ∧ (∀ b o, Hx b = some o → b ≠ pr → H3 b = some o) ∧ H3 pr = some (.dT (kd (LA.prod1 p A0 (DB.take c)))))
          ⟨v4, v5, rfl, fun b o hb _ => hb, hprx⟩ (fun c σ H3 _ ⟨_, _, _, s3, _⟩ => s3 _ _ hxb hbp) ?_ ?_
        · rintro c y σ H3 H3' hc ⟨v4, v5, rfl, s3, e3⟩ ⟨rfl, kk2, vv2, u, hkv2, rfl, hu2⟩
          have hcD : c < DB.length := by simpa [kd] using hc
          obtain ⟨r, hrm'⟩ : ∃ r, DB[c]? = some r := ⟨_, List.getElem?_eq_getElem hcD⟩
          have hrm := List.mem_of_getElem? hrm'
          have ek : kk2 = mkey r.1 ∧ vv2 = .int r.2 := by
            unfold kd at hkv2
            rw [List.getElem?_map, hrm'] at hkv2
            have := Option.some.inj hkv2
            exact ⟨(congrArg Prod.fst this).symm, (congrArg Prod.snd this).symm⟩
          obtain ⟨rfl, rfl⟩ := ek
          rw [mkeyV] at hu2
          have hq3 : H3' q = some (.tup ((toI p.1).map V.int)) := s3 _ _ hqx hqr
          have lpr : p.1.length = r.1.length := by rw [(hA p hpm).1, (hB r hrm).1]
          have lp : (toI p.1).length = p.1.length := toI_len _
          have lr' : (toI r.1).length = p.1.length := by rw [toI_len, lpr]
          have hn : p.1.length ≤ 10 := by rw [(hA p hpm).1]; exact n10
          -- both
          refine ⟨_, rfl, q, _, rfl, .inr (SqT.of hq3), _, rfl, by omega, by rw [List.length_map, lp]; omega, ?_⟩
          rw [List.length_map, lp, Int.toNat_natCast]
          intro D hD
          refine lc_range (lo := 0) (fun i H4 => Same H3' H4 ∧ H4 D = some (.lst (((toI (LA.addM p.1 r.1)).take i).map V.int))) ⟨same_upd hD, by rw [upd_same]; rfl⟩ ?_ ?_
          · rintro i H4 hi ⟨s4, e4⟩
            refine ⟨rfl, ?_⟩
            refine ⟨_, rfl, _, rfl, q, _, _, _, rfl, rfl, SqT.of (s4 _ _ hq3), at_of (j := i) (by omega) (getD_map (by omega)), ?_⟩
            refine ⟨_, rfl, _, rfl, u, _, _, _, rfl, rfl, SqT.of (s4 _ _ hu2), at_of (j := i) (by omega) (getD_map (by omega)), ?_⟩
            refine ⟨_, _, rfl, rfl, ?_⟩
            refine ⟨_, e4, small1000 (by rw [List.length_map, List.length_take]; omega), fun b o hb => ?_, ?_⟩
            · rw [upd_ne (ne_of_none hb hD)]
              exact s4 b o hb
            · rw [upd_same, addM_at lpr hi, List.map_append]
              rfl
          · rintro H4 ⟨s4, e4⟩
            rw [List.take_of_length_le (by rw [toI_len, addM_len lpr]; exact Nat.le_refl _)] at e4
            refine ⟨D, _, rfl, .inl ⟨SqL.of e4, fun l hl => ?_⟩⟩
            have s5 : Same H3' (upd H4 l (.tup ((toI (LA.addM p.1 r.1)).map V.int))) := s4.trans (same_upd hl)
            generalize hH5 : upd H4 l (.tup ((toI (LA.addM p.1 r.1)).map V.int)) = H5 at s5
            have h5l : H5 l = some (.tup ((toI (LA.addM p.1 r.1)).map V.int)) := by rw [← hH5]; exact upd_same
            have e5 := s5 _ _ e3
            have hpa5 : H5 pa = some (.frz oa (.dT (kd DA))) := s5 _ _ (s3 _ _ hxa hap)
            have hpb5 : H5 pb = some (.frz ob (.dT (kd DB))) := s5 _ _ (s3 _ _ hxb hbp)
            have hlen5 := prod1_len p (DB.take c) A0
            have hlen6 : (DB.take c).length ≤ 50 := by rw [List.length_take]; omega
            have et2 : LA.prod1 p A0 (DB.take (c + 1)) = LA.dadd (LA.prod1 p A0 (DB.take c)) (LA.addM p.1 r.1) (p.2 * r.2) := by
              unfold LA.prod1
              rw [List.take_add_one, hrm', List.foldl_append]
              rfl
            rw [et2]
            generalize LA.prod1 p A0 (DB.take c) = A1 at e5 hlen5
            refine ⟨_, rfl, pr, rfl, .inr ⟨_, .inl e5⟩, _, rfl, _, DGet.t (k := mkey (LA.addM p.1 r.1)) e5 (by rw [mkeyV]; exact h5l), ?_⟩
            refine ⟨_, rfl, _, rfl, pa, .int (LA.dget DA p.1), rfl, .inr ⟨kd DA, mkey p.1, q, .inr ⟨oa, hpa5⟩, rfl, by rw [mkeyV]; exact s5 _ _ hq3, (kd_some (List.mem_map.mpr ⟨p, hpm, rfl⟩)).symm⟩, ?_⟩
            refine ⟨_, rfl, _, rfl, pb, .int (LA.dget DB r.1), rfl, .inr ⟨kd DB, mkey r.1, u, .inr ⟨ob, hpb5⟩, rfl, by rw [mkeyV]; exact s5 _ _ hu2, (kd_some (List.mem_map.mpr ⟨r, hrm, rfl⟩)).symm⟩, ?_⟩
            rw [dget_own na hpm, dget_own nb hrm]
            refine ⟨_, _, rfl, rfl, wide_mul (hA p hpm).2 (hB r hrm).2 (by decide) (by decide) (by decide), ?_⟩
            refine ⟨_, _, (kd_val _ _).1, rfl, ?_⟩
            refine ⟨_, rfl, _, rfl, pr, _, rfl, DPut.t (k := mkey (LA.addM p.1 r.1)) e5 (by rw [mkeyV]; exact h5l) (Nat.lt_of_le_of_lt (show _ ≤ 4000 by simp [kd]; omega) (by decide)), ?_⟩
            rw [kd_put]
            refine ⟨some (.ref u), some (.ref l), rfl, fun b o hb hne => ?_, ?_⟩
            · rw [upd_ne hne]
              exact s5 _ _ (s3 _ _ hb hne)
            · rw [upd_same]
              rfl
        · rintro σ H3 ⟨v4, v5, rfl, s3, e3⟩
          have hl : (kd DB).length = DB.length := by simp [kd]
          rw [hl, List.take_length] at e3
          exact fin2 _ H3 ⟨v4, v5, rfl⟩ s3 e3
    · rintro σ H2 ⟨v3, v4, v5, rfl, s1, e1⟩
      have hl : (kd DA).length = DA.length := by simp [kd]
      rw [hl, List.take_length] at e1
      refine ⟨s1 _ _ hf1 hap, _, rfl, ?_⟩
      refine k _ pr (fun b o hb => ?_) hpr ?_
      · by_cases c : b = pa
        · subst c
          rw [upd_same, ← hpa, hb]
        · rw [upd_ne c]
          exact s1 _ _ (hf3 b o hb c) (ne_of_none hb hpr)
      · rw [upd_ne (fun z => hap z.symm)]
        exact e1
end LF
end
section
set_option maxRecDepth 100000
set_option maxHeartbeats 4000000
namespace LF
open PySem PySem.Spec PyProof.Rows L2
variable {P : Program} {w : World} {K : PySem.W.Frag} {mg : Str → Option Value} {base : Heap}
/-- addresses of what stands there -/
def refA {α : Type} (L : List (Addr × α)) : List V := L.map fun p => V.ref p.1
theorem len_refA {α : Type} (L : List (Addr × α)) : (refA L).length = L.length := by simp [refA]
theorem refA_at {α : Type} {L : List (Addr × α)} {i : Nat} {x : V} (h : (refA L)[i]? = some x) : ∃ p, L[i]? = some p ∧ x = .ref p.1 := by
  unfold refA at h
  rw [List.getElem?_map] at h
  cases e : L[i]? with
  | none => rw [e] at h; cases h
  | some p => rw [e] at h; exact ⟨p, rfl, (Option.some.inj h).symm⟩
theorem at_refA {α : Type} {L : List (Addr × α)} {i : Nat} {p : Addr × α} (h : L[i]? = some p) : (refA L)[i]? = some (.ref p.1) := by
  unfold refA
  rw [List.getElem?_map, h]
  rfl
/-- polynomials of one degree, as dicts -/
def DL (H : Hp) (n e : Nat) (L : List (Addr × List Int)) : Prop := ∀ x ∈ L, H x.1 = some (.dT (kd (LA.polyD n e x.2)))
theorem DL.same {H H' : Hp} {n e : Nat} {L : List (Addr × List Int)} (h : DL H n e L) (s : Same H H') : DL H' n e L := fun x hx => s _ _ (h x hx)
/-- degree by degree -/
def FL (H : Hp) (n : Nat) (S : Nat → List (List Int)) (F : List (Addr × List (Addr × List Int))) : Prop := ∀ e x, F[e]? = some x → H x.1 = some (.lst (refs x.2)) ∧ DL H n e x.2 ∧ x.2.map (·.2) = S e
theorem FL.same {H H' : Hp} {n : Nat} {S : Nat → List (List Int)} {F : List (Addr × List (Addr × List Int))} (h : FL H n S F) (s : Same H H') : FL H' n S F := fun e x hx => ⟨s _ _ (h e x hx).1, (h e x hx).2.1.same s, (h e x hx).2.2⟩
theorem GrOk.rows {H : Hp} {n : Nat} {g : Addr} {G : List (Addr × List Int)} (h : GrOk H n g G) {d : Nat} (hd : d ≤ LA.most n) : ∀ r ∈ LA.stayZ n (G.map (·.2)) d, r.length = (Wp04.monos n d).length ∧ ∀ j, (LA.fi r j).natAbs ≤ 2 ^ 40000 := fun r hr => by
  have d8 : d ≤ 8 := Nat.le_trans (LA.most_bnd hd) LA.bnd8
  have := LA.elim_bound (M := 2 ^ 1700) (LA.sumRows_len (n := n) (d := d) (g := G.map fun (x : Addr × List Int) => x.2)) Nat.one_le_two_pow (h.le d8) (Nat.le_refl _) r (List.mem_append_right _ hr)
  exact ⟨this.1, fun j => Nat.le_of_lt (Nat.lt_of_le_of_lt (this.2 j) (LA.pow40 (LA.monos_21 h.hn hd).2))⟩
abbrev sPs : Stmt := top 34
def NPs : List Str := ["n", "group", "d", "found", "degree", "order", "row"]
theorem scPs : FnScope NPs ["n", "group", "d"] (defScope sPs) := ⟨rfl, rfl, rfl, by decide +kernel, rfl, by decide +kernel, by decide +kernel⟩
/-- polynomials_that_stay -/
def spPs : Sp := fun vs H Q _ => ∃ (n : Nat) (g : Addr) (G : List (Addr × List Int)) (m : Nat), vs = [.int n, .ref g, .int ((m : Int) - 1)] ∧ GrOk H n g G ∧ m ≤ LA.most n ∧
  ∀ (H' : Hp) (p : Addr) (F : List (Addr × List (Addr × List Int))), Same H H' → H p = none → H' p = some (.lst (refA F)) → F.length = m → FL H' n (LA.stayZ n (G.map (·.2))) F → Q (.ref p) H'
theorem dT_ne_lst {H : Hp} {a b : Addr} {k : List (List Key × V)} {xs : List V} (h1 : H a = some (.dT k)) (h2 : H b = some (.lst xs)) : a ≠ b := fun z => by
  rw [z, h2] at h1
  cases h1
theorem ok_ps {f : Addr} {fd : FuncData} (F : Fun K "polynomials_that_stay" "polynomials_that_stay" sPs f fd) (B : Bi mg) (cM : Cal P w K mg base "monomials" 1 ["n", "d"] spMo) (cR : Cal P w K mg base "rows_that_stay" 43 ["n", "group", "d"] spRs) (cP : Cal P w K mg base "polynomial_of" 1 ["order", "row"] spPf) :
    FnOk P w K mg base CX0 44 f fd ["n", "group", "d"] spPs := by
  refine F.ok scPs (fun vs H Q E h => ?_) (fun cdv A outer s H vs Q E hr h => ?_)
  · obtain ⟨n, g, G, m, rfl, _⟩ := h
    rfl
  · have nd : NPs.Nodup := scPs.nd
    have hr1 : Room 1 _ := hr.mono (by decide)
    obtain ⟨n, g, G, m, rfl, gr, hm, k⟩ := h
    refine ⟨_, pss_cons (ps_set (i := 3) nd rfl (Or.inl rfl) (pe_lst pa_nil))
      (pss_cons (ps_for PassesOwn.never rfl (pi_range1 (by rfl) B.range (pa_cons (pe_op op_add (pv 2) pe_int) pa_nil)) (pg_name (i := 4) nd rfl (Or.inl rfl))
        (pss_cons (ps_set (i := 5) nd rfl (Or.inr rfl) (pe_call cM.ok hr1 (by rfl) cM.mgx cM.kp cM.b .nil pass0 (pa_cons (pv 0) (pa_cons (pv 4) pa_nil))))
        (pss_one (ps_expr (pe_bm PySem.F.plainAttrs_list PySem.F.slot_list_append PySem.F.type_list_append mt_append (pv 3) (pa_cons
          (pe_lc (own := [("row", 6)]) (g := gName 6) (tt := tYes) rfl nd (pi_list (pe_call cR.ok hr (by rfl) cR.mgx cR.kp cR.b .nil pass0 (pa_cons (pv 0) (pa_cons (pv 1) (pa_cons (pv 4) pa_nil)))))
              (blkOk_by (N := NPs) (sc := defScope sPs) (by decide +kernel)) (fun _ _ _ _ _ => pg_name (i := 6) nd rfl (Or.inl rfl)) (fun _ _ _ _ _ => pts_nil)
              (fun _ _ _ _ _ => pe_call cP.ok hr1 (by rfl) cP.mgx cP.kp cP.b .nil pass0 (pa_cons (pv 5) (pa_cons (pv 6) pa_nil)))) pa_nil))))))
      (pss_one (ps_ret (pv 3)))), ?_⟩
    have m8 : m ≤ 8 := Nat.le_trans (LA.most_bnd hm) LA.bnd8
    refine ⟨by decide, fun fo hfo => ?_⟩
    have s0 : Same H (upd H fo (.lst [])) := same_upd hfo
    refine ⟨_, rfl, _, _, rfl, rfl, (m : Int) - 1 + 1, rfl, by omega, by omega, ?_⟩
    rw [show ((m : Int) - 1 + 1).toNat = m by omega]
    refine for_range (lo := 0) (n := m) (fun e σ H' => ∃ (F : List (Addr × List (Addr × List Int))) (v4 v5 : Option V), σ = [some (.int n), some (.ref g), some (.int ((m : Int) - 1)), some (.ref fo), v4, v5, none] ∧ Same H H' ∧ H' fo = some (.lst (refA F)) ∧ F.length = e ∧ FL H' n (LA.stayZ n (G.map (·.2))) F ∧ ∀ x ∈ F, x.1 ≠ fo)
      ⟨[], none, none, rfl, s0, upd_same, rfl, fun e x hx => by simp at hx, fun x hx => by simp at hx⟩ ?_ ?_
    · rintro e σ H' he ⟨F, v4, v5, rfl, s1, e1, lF', fl, ne⟩
      have hem : e ≤ LA.most n := by omega
      refine ⟨_, rfl, _, rfl, n, e, ?_, gr.hn, by omega, fun H1 od Lo s2 hod e2 t2 q2 => ?_⟩
      · show [V.int n, V.int (0 + e)] = _
        rw [Int.zero_add]
      have s02 : Same H H1 := s1.trans s2
      have hfo1 : H1 fo = some (.lst (refA F)) := s2 _ _ e1
      refine ⟨_, rfl, .inl ⟨rfl, _, SqL.of hfo1⟩, _, rfl, _, rfl, _, rfl, n, g, G, e, ?_, gr.same s02, hem, fun H2 rp R s3 hrp e3 rl3 q3 => ?_⟩
      · show [V.int n, V.ref g, V.int (0 + e)] = _
        rw [Int.zero_add]
      have s03 : Same H H2 := s02.trans s3
      refine ⟨rp, rfl, ⟨_, SqL.of e3⟩, fun D hD => ?_⟩
      have hDfo : D ≠ fo := fun z => by rw [z, s3 _ _ hfo1] at hD; cases hD
      have hRl : R.length ≤ 21 := by
        have h1 := congrArg List.length q3
        have h2 := LA.stayZ_len (n := n) (g := G.map (·.2)) (d := e)
        have h3 := (LA.monos_21 gr.hn hem).2
        rw [List.length_map] at h1
        omega
      refine lc_list (K := K) (a := rp) (xs := refs R) (fun i H3 => Same H2 H3 ∧ ∃ L : List (Addr × List Int), H3 D = some (.lst (refs L)) ∧ DL H3 n e L ∧ L.map (·.2) = (R.take i).map (·.2)) ⟨same_upd hD, [], by rw [upd_same]; rfl, fun x hx => by simp at hx, rfl⟩
        (fun i H3 _ ⟨s4, _⟩ => SqL.of (s4 _ _ e3)) ?_ ?_
      · rintro i x H3 hx ⟨s4, L, e4, dl4, q4⟩
        obtain ⟨q, hq, rfl⟩ := refs_at hx
        have hqm := List.mem_of_getElem? hq
        have hqz : q.2 ∈ LA.stayZ n (G.map (·.2)) e := by rw [← q3]; exact List.mem_map_of_mem hqm
        have lq := (gr.rows hem q.2 hqz).1
        have N21 := (LA.monos_21 gr.hn hem).2
        have s24 : Same H1 H3 := s3.trans s4
        refine ⟨rfl, ?_⟩
        refine ⟨_, rfl, _, rfl, od, q.1, Lo, n, e, q.2, rfl, s24 _ _ e2, t2.same s24, q2, s4 _ _ (rl3 q hqm), lq, by omega, fun H4 r s5 hr5 h5 => ?_⟩
        have hLl : L.length ≤ 21 := by
          have := congrArg List.length q4
          simp only [List.length_map, List.length_take] at this
          omega
        have e5 := s5 _ _ e4
        refine ⟨_, e5, small1000 (by rw [len_refs]; omega), fun b o hb => ?_, L ++ [(r, q.2)], ?_, fun y hy => ?_, ?_⟩
        · rw [upd_ne (ne_of_none hb hD)]
          exact s5 _ _ (s4 _ _ hb)
        · rw [upd_same]; simp [refs]
        · rcases List.mem_append.mp hy with hy | hy
          · have h6 := s5 _ _ (dl4 y hy)
            rw [upd_ne (dT_ne_lst h6 e5)]
            exact h6
          · rw [List.mem_singleton.mp hy, upd_ne (dT_ne_lst h5 e5)]
            exact h5
        · rw [List.map_append, q4, List.take_add_one, hq, List.map_append (l₂ := Option.toList _)]
          rfl
      · rintro H3 ⟨s4, L, e4, dl4, q4⟩
        rw [len_refs, List.take_length, q3] at q4
        have hfo3 : H3 fo = some (.lst (refA F)) := s4 _ _ (s3 _ _ hfo1)
        have sF : Same H' H3 := (s2.trans s3).trans s4
        refine ⟨fo, _, _, rfl, rfl, hfo3, small1000 (by rw [len_refA]; omega), ?_⟩
        refine ⟨F ++ [(D, L)], some (.int (0 + e)), some (.ref od), rfl, fun b o hb => ?_, ?_, by simp [lF'], fun e' x hx => ?_, fun x hx => ?_⟩
        · rw [upd_ne (ne_of_none hb hfo)]
          exact s4 _ _ (s03 _ _ hb)
        · rw [upd_same]; simp [refA]
        · by_cases c : e' < F.length
          · rw [List.getElem?_append_left c] at hx
            obtain ⟨a1, a2, a3⟩ := fl e' x hx
            refine ⟨by rw [upd_ne (ne x (List.mem_of_getElem? hx))]; exact sF _ _ a1, fun y hy => ?_, a3⟩
            have h6 := sF _ _ (a2 y hy)
            rw [upd_ne (dT_ne_lst h6 hfo3)]
            exact h6
          · rw [List.getElem?_append_right (by omega)] at hx
            have he' : e' - F.length = 0 := by
              have := (List.getElem?_eq_some_iff.mp hx).1
              simp at this
              omega
            rw [he'] at hx
            have ex : x = (D, L) := (Option.some.inj hx).symm
            subst ex
            have ee : e' = e := by omega
            subst ee
            refine ⟨by rw [upd_ne hDfo]; exact e4, fun y hy => ?_, q4⟩
            have h6 := dl4 y hy
            rw [upd_ne (dT_ne_lst h6 hfo3)]
            exact h6
        · rcases List.mem_append.mp hx with hx | hx
          · exact ne x hx
          · rw [List.mem_singleton.mp hx]
            exact hDfo
    · rintro σ H' ⟨F, v4, v5, rfl, s1, e1, lF', fl, ne⟩
      exact ⟨_, rfl, k H' fo F s1 hfo e1 lF' fl⟩
end LF
end
section
set_option maxRecDepth 100000
set_option maxHeartbeats 4000000
namespace LF
open PySem PySem.Spec PyProof.Rows L2
variable {P : Program} {w : World} {K : PySem.W.Frag} {mg : Str → Option Value} {base : Heap}
theorem flat_len {α β : Type} (f : α → List β) (B : Nat) : ∀ (l : List α), (∀ a ∈ l, (f a).length ≤ B) → (l.flatMap f).length ≤ l.length * B
  | [], _ => by simp
  | a :: l, h => by
    have h1 := flat_len f B l fun x hx => h x (List.mem_cons_of_mem _ hx)
    have h2 := h a (List.mem_cons_self ..)
    rw [List.flatMap_cons, List.length_append, List.length_cons, Nat.add_mul]
    omega
/-- what the lower ones must be -/
structure LowOk (n : Nat) (S : Nat → List (List Int)) (d : Nat) : Prop where
  hn : n = 2 ∨ n = 3
  dm : d ≤ LA.most n
  row : ∀ e < d, ∀ r ∈ S e, r.length = (Wp04.monos n e).length ∧ ∀ j, (LA.fi r j).natAbs ≤ 2 ^ 40000
  few : ∀ e < d, (S e).length ≤ 21
theorem LowOk.len {n : Nat} {S : Nat → List (List Int)} {d : Nat} (h : LowOk n S d) {i : Nat} (hi : i < d / 2) (l : List (List Int)) (hl : l.length ≤ 21) : (l.flatMap fun a => (S (d - (i + 1))).map fun b => LA.prodZ n (i + 1) d a b).length ≤ 441 := by
  have := flat_len (fun a => (S (d - (i + 1))).map fun b => LA.prodZ n (i + 1) d a b) 21 l fun a _ => by
    rw [List.length_map]
    exact h.few _ (by omega)
  have : l.length * 21 ≤ 21 * 21 := Nat.mul_le_mul_right _ hl
  omega
theorem LowOk.le {n : Nat} {S : Nat → List (List Int)} {d : Nat} (h : LowOk n S d) : ∀ r ∈ LA.prodsZ n S d, r.length = (Wp04.monos n d).length ∧ ∀ j, (LA.fi r j).natAbs ≤ 2 ^ 80010 := fun r hr => by
  refine ⟨LA.prodsZ_len r hr, fun j => ?_⟩
  unfold LA.prodsZ at hr
  obtain ⟨i, hi, hr⟩ := List.mem_flatMap.mp hr
  obtain ⟨a, ha, hr⟩ := List.mem_flatMap.mp hr
  obtain ⟨b, hb, rfl⟩ := List.mem_map.mp hr
  have hi' := List.mem_range.mp hi
  have dm := h.dm
  exact LA.prod80 (h.row (i + 1) (by omega) a ha).2 (h.row (d - (i + 1)) (by omega) b hb).2 (LA.monos_21 h.hn (by omega)).2 (LA.monos_21 h.hn (by omega)).2 j
theorem LowOk.made {n : Nat} {S : Nat → List (List Int)} {d : Nat} (h : LowOk n S d) : ∀ r ∈ (LA.elimAt (LA.prodsZ n S d) (Wp04.monos n d).length).2, r.length = (Wp04.monos n d).length ∧ LA.fi r (LA.lead r) ≠ 0 ∧ ∀ j, (LA.fi r j).natAbs < 2 ^ 1800000 := fun r hr => by
  have := LA.elim_bound (M := 2 ^ 80010) (LA.prodsZ_len (n := n) (S := S) (d := d)) Nat.one_le_two_pow (fun o ho => (h.le o ho).2) (Nat.le_refl _) r (List.mem_append_right _ hr)
  exact ⟨this.1, (LA.elim_nz LA.prodsZ_len r hr).1, fun j => Nat.lt_of_le_of_lt (this.2 j) (LA.pow18 (LA.monos_21 h.hn h.dm).2)⟩
theorem poly_ok {n e : Nat} {r : List Int} (h : ∀ j, (LA.fi r j).natAbs ≤ 2 ^ 40000) (h21 : (Wp04.monos n e).length ≤ 21) : (∀ p ∈ LA.polyD n e r, p.1.length = n ∧ p.2.natAbs < 2 ^ 400000) ∧ (LA.polyD n e r).length ≤ 50 ∧ ((LA.polyD n e r).map (·.1)).Nodup := by
  obtain ⟨k1, k2⟩ := LA.polyD_keys (n := n) (d := e) (row := r)
  refine ⟨fun p hp => ⟨(LA.mem_monos.mp (k2 p hp)).1, ?_⟩, ?_, k1⟩
  · exact Nat.lt_of_le_of_lt (LA.polyK_le _ _ h _ p hp) (Nat.pow_lt_pow_right (by decide) (by decide))
  · have := LA.polyK_len (Wp04.monos n e) r (Wp04.monos n e).length
    unfold LA.polyD
    omega
abbrev sRm : Stmt := top 35
def NRm : List Str := ["n", "lower_ones", "d", "order", "rows", "degree", "a", "b", "product", "monomial"]
theorem scRm : FnScope NRm ["n", "lower_ones", "d"] (defScope sRm) := ⟨rfl, rfl, rfl, by decide +kernel, rfl, by decide +kernel, by decide +kernel⟩
/-- rows_made_of_lower -/
def spRm : Sp := fun vs H Q _ => ∃ (n : Nat) (lo : Addr) (F : List (Addr × List (Addr × List Int))) (S : Nat → List (List Int)) (d : Nat), vs = [.int n, .ref lo, .int d] ∧ LowOk n S d ∧ H lo = some (.lst (refA F)) ∧ FL H n S F ∧ d ≤ F.length ∧
  ∀ (H' : Hp) (p : Addr) (R : List (Addr × List Int)), Same H H' → H p = none → H' p = some (.lst (refs R)) → RL H' R → R.map (·.2) = (LA.elimAt (LA.prodsZ n S d) (Wp04.monos n d).length).2 → Q (.ref p) H'
theorem ok_rm {f : Addr} {fd : FuncData} (Fn : Fun K "rows_made_of_lower" "rows_made_of_lower" sRm f fd) (B : Bi mg) (cM : Cal P w K mg base "monomials" 1 ["n", "d"] spMo) (cP : Cal P w K mg base "product_of" 1 ["a", "b"] spPr) (cF : Cal P w K mg base "fewest_rows" 42 ["rows"] spFr) :
    FnOk P w K mg base CX0 43 f fd ["n", "lower_ones", "d"] spRm := by
  refine Fn.ok scRm (fun vs H Q E h => ?_) (fun cdv A outer s H vs Q E hr h => ?_)
  · obtain ⟨n, lo, F, S, d, rfl, _⟩ := h
    rfl
  · have nd : NRm.Nodup := scRm.nd
    have hu := hu_of hr
    have hr1 : Room 1 _ := hr.mono (by decide)
    obtain ⟨n, lo, F, S, d, rfl, low, hlo, fl, hdF, k⟩ := h
    refine ⟨_, pss_cons (ps_set (i := 3) nd rfl (Or.inl rfl) (pe_call cM.ok hr1 (by rfl) cM.mgx cM.kp cM.b .nil pass0 (pa_cons (pv 0) (pa_cons (pv 2) pa_nil))))
      (pss_cons (ps_set (i := 4) nd rfl (Or.inl rfl) (pe_lst pa_nil))
      (pss_cons (ps_for PassesOwn.never rfl (pi_range2 (by rfl) B.range (pa_cons pe_int (pa_cons (pe_op op_add (pe_op op_fdivN (pv 2) pe_int) pe_int) pa_nil))) (pg_name (i := 5) nd rfl (Or.inl rfl))
        (pss_one (ps_for PassesOwn.never rfl (pi_list (pe_ix (r := rIxL K) ix_list (pv 1) (pv 5) (fun _ _ => rfl))) (pg_name (i := 6) nd rfl (Or.inl rfl))
          (pss_one (ps_for PassesOwn.never rfl (pi_list (pe_ix (r := rIxL K) ix_list (pv 1) (pe_op op_sub (pv 2) (pv 5)) (fun _ _ => rfl))) (pg_name (i := 7) nd rfl (Or.inl rfl))
            (pss_cons (ps_set (i := 8) nd rfl (Or.inr rfl) (pe_call cP.ok hr1 (by rfl) cP.mgx cP.kp cP.b .nil pass0 (pa_cons (pv 6) (pa_cons (pv 7) pa_nil))))
            (pss_one (ps_expr (pe_bm PySem.F.plainAttrs_list PySem.F.slot_list_append PySem.F.type_list_append mt_append (pv 4) (pa_cons
              (pe_lc (own := [("monomial", 9)]) (g := gName 9) (tt := tYes) rfl nd (pi_list (pv 3))
                (blkOk_by (N := NRm) (sc := defScope sRm) (by decide +kernel)) (fun _ _ _ _ _ => pg_name (i := 9) nd rfl (Or.inl rfl)) (fun _ _ _ _ _ => pts_nil)
                (fun _ _ _ _ _ => pe_dget2 hu (pv 8) (pv 9) pe_int ⟨rfl, rfl, rfl, rfl⟩)) pa_nil))))))))))
      (pss_one (ps_ret (pe_call cF.ok hr (by rfl) cF.mgx cF.kp cF.b .nil pass0 (pa_cons (pv 4) pa_nil)))))), ?_⟩
    have hn := low.hn
    have dm := low.dm
    have d8 : d ≤ 8 := Nat.le_trans (LA.most_bnd dm) LA.bnd8
    have N21 := LA.monos_21 hn dm
    refine ⟨_, rfl, _, rfl, n, d, rfl, hn, d8, fun H1 od Lo s1 hod e1 t1 q1 => ?_⟩
    have hLo : Lo.length = (Wp04.monos n d).length := by
      have := congrArg List.length q1
      simpa using this
    refine ⟨by decide, fun rw' hrw => ?_⟩
    have hrwH : H rw' = none := s1.free hrw
    have fd2 : ((d : Int).fdiv 2) = ((d / 2 : Nat) : Int) := by
      rw [Int.fdiv_eq_ediv_of_nonneg _ (by decide)]
      omega
    refine ⟨_, rfl, _, _, rfl, rfl, ⟨by decide, by decide⟩, ?_⟩
    refine ⟨_, _, rfl, rfl, (1 : Int), (d : Int).fdiv 2 + 1, rfl, by rw [fd2]; omega, ?_⟩
    rw [show ((d : Int).fdiv 2 + 1 - 1).toNat = d / 2 by rw [fd2]; omega]
    refine for_range (lo := 1) (n := d / 2) (fun i σ H' => ∃ (R : List (Addr × List Int)) (v5 v6 v7 v8 : Option V), σ = [some (.int n), some (.ref lo), some (.int d), some (.ref od), some (.ref rw'), v5, v6, v7, v8, none] ∧ Same H1 H' ∧ H' rw' = some (.lst (refs R)) ∧ RL H' R ∧ (∀ r ∈ R, r.1 ≠ rw') ∧
      R.map (·.2) = (List.range i).flatMap fun i => (S (i + 1)).flatMap fun a => (S (d - (i + 1))).map fun b => LA.prodZ n (i + 1) d a b)
      ⟨[], none, none, none, none, rfl, same_upd hrw, upd_same, fun r hr' => by simp at hr', fun r hr' => by simp at hr', rfl⟩ ?_ ?_
    · rintro i σ H' hi ⟨R, v5, v6, v7, v8, rfl, s2, e2, rl2, ne2, q2⟩
      obtain ⟨xa, hxa⟩ : ∃ x, F[i + 1]? = some x := ⟨_, List.getElem?_eq_getElem (by omega)⟩
      obtain ⟨xb, hxb⟩ : ∃ x, F[d - (i + 1)]? = some x := ⟨_, List.getElem?_eq_getElem (by omega)⟩
      have lenI : ((List.range i).flatMap fun i => (S (i + 1)).flatMap fun a => (S (d - (i + 1))).map fun b => LA.prodZ n (i + 1) d a b).length ≤ 4 * 441 := by
        have h1 := flat_len (fun i => (S (i + 1)).flatMap fun a => (S (d - (i + 1))).map fun b => LA.prodZ n (i + 1) d a b) 441 (List.range i) fun j hj => by
          have := List.mem_range.mp hj
          exact low.len (by omega) _ (low.few _ (by omega))
        rw [List.length_range] at h1
        have h2 : i * 441 ≤ 4 * 441 := Nat.mul_le_mul_right _ (by omega)
        omega
      generalize hPi : ((List.range i).flatMap fun i => (S (i + 1)).flatMap fun a => (S (d - (i + 1))).map fun b => LA.prodZ n (i + 1) d a b) = Pi at q2 lenI
      have flA := (fl.same s1) _ _ hxa
      have flB := (fl.same s1) _ _ hxb
      have lenA : xa.2.length ≤ 21 := by
        have h1 := congrArg List.length flA.2.2
        have h2 := low.few (i + 1) (by omega)
        rw [List.length_map] at h1
        omega
      have lenB : xb.2.length ≤ 21 := by
        have h1 := congrArg List.length flB.2.2
        have h2 := low.few (d - (i + 1)) (by omega)
        rw [List.length_map] at h1
        omega
      refine ⟨_, rfl, _, rfl, lo, _, _, _, rfl, rfl, SqL.of (s2 _ _ (s1 _ _ hlo)), at_of (j := i + 1) (by omega) (at_refA hxa), ?_⟩
      refine ⟨xa.1, rfl, ⟨_, SqL.of (s2 _ _ flA.1)⟩, ?_⟩
      refine for_list (K := K) (a := xa.1) (xs := refs xa.2) (fun ja σ H' => ∃ (R : List (Addr × List Int)) (v6 v7 v8 : Option V), σ = [some (.int n), some (.ref lo), some (.int d), some (.ref od), some (.ref rw'), some (.int (1 + i)), v6, v7, v8, none] ∧ Same H1 H' ∧ H' rw' = some (.lst (refs R)) ∧ RL H' R ∧ (∀ r ∈ R, r.1 ≠ rw') ∧
        R.map (·.2) = Pi ++ ((xa.2.take ja).map (·.2)).flatMap fun a => (S (d - (i + 1))).map fun b => LA.prodZ n (i + 1) d a b)
        ⟨R, v6, v7, v8, rfl, s2, e2, rl2, ne2, by simp [q2]⟩ (fun ja σ H' _ ⟨_, _, _, _, _, s3, _⟩ => SqL.of (s3 _ _ flA.1)) ?_ ?_
      · rintro ja x σ H2 hx ⟨R, v6, v7, v8, rfl, s3, e3, rl3, ne3, q3⟩
        obtain ⟨ya, hya, rfl⟩ := refs_at hx
        have hyam := List.mem_of_getElem? hya
        have yaS : ya.2 ∈ S (i + 1) := by rw [← flA.2.2]; exact List.mem_map_of_mem hyam
        have dA := flA.2.1 ya hyam
        obtain ⟨pA1, pA2, pA3⟩ := poly_ok (n := n) (e := i + 1) (low.row (i + 1) (by omega) ya.2 yaS).2 (LA.monos_21 hn (by omega)).2
        have lenM : ((xa.2.take ja).map (·.2)).length ≤ 21 := by
          rw [List.length_map, List.length_take]
          omega
        have lenMf := low.len hi ((xa.2.take ja).map (·.2)) lenM
        have etM : (xa.2.take (ja + 1)).map (·.2) = (xa.2.take ja).map (·.2) ++ [ya.2] := by rw [List.take_add_one, hya, List.map_append]; rfl
        rw [etM, List.flatMap_append, ← List.append_assoc]
        have lenM2 : R.length ≤ 5 * 441 := by
          have := congrArg List.length q3
          rw [List.length_map, List.length_append] at this
          omega
        generalize hPm : Pi ++ (((xa.2.take ja).map (·.2)).flatMap fun a => (S (d - (i + 1))).map fun b => LA.prodZ n (i + 1) d a b) = Pm at q3
        refine ⟨_, rfl, _, rfl, _, rfl, _, _, rfl, rfl, lo, _, _, _, rfl, rfl, SqL.of (s3 _ _ (s1 _ _ hlo)), at_of (j := d - (i + 1)) (by omega) (at_refA hxb), ?_⟩
        refine ⟨xb.1, rfl, ⟨_, SqL.of (s3 _ _ flB.1)⟩, ?_⟩
        have lenPm : Pm.length ≤ 5 * 441 := by
          have := congrArg List.length q3
          rw [List.length_map] at this
          omega
        refine for_list (K := K) (a := xb.1) (xs := refs xb.2) (fun jb σ H' => ∃ (R : List (Addr × List Int)) (v7 v8 : Option V), σ = [some (.int n), some (.ref lo), some (.int d), some (.ref od), some (.ref rw'), some (.int (1 + i)), some (.ref ya.1), v7, v8, none] ∧ Same H1 H' ∧ H' rw' = some (.lst (refs R)) ∧ RL H' R ∧ (∀ r ∈ R, r.1 ≠ rw') ∧
          R.map (·.2) = Pm ++ ((xb.2.take jb).map (·.2)).map fun b => LA.prodZ n (i + 1) d ya.2 b)
          ⟨R, v7, v8, rfl, s3, e3, rl3, ne3, by simp [q3]⟩ (fun jb σ H' _ ⟨_, _, _, _, s4, _⟩ => SqL.of (s4 _ _ flB.1)) ?_ ?_
        · rintro jb y σ H3 hy ⟨R, v7, v8, rfl, s4, e4, rl4, ne4, q4⟩
          obtain ⟨yb, hyb, rfl⟩ := refs_at hy
          have hybm := List.mem_of_getElem? hyb
          have hjb := (List.getElem?_eq_some_iff.mp hyb).1
          have ybS : yb.2 ∈ S (d - (i + 1)) := by rw [← flB.2.2]; exact List.mem_map_of_mem hybm
          have dB := flB.2.1 yb hybm
          obtain ⟨pB1, pB2, pB3⟩ := poly_ok (n := n) (e := d - (i + 1)) (low.row (d - (i + 1)) (by omega) yb.2 ybS).2 (LA.monos_21 hn (by omega)).2
          refine ⟨_, rfl, _, rfl, ya.1, yb.1, LA.polyD n (i + 1) ya.2, LA.polyD n (d - (i + 1)) yb.2, n, rfl, s4 _ _ dA, s4 _ _ dB, pA1, pB1, by rcases hn with h | h <;> omega, pA2, pB2, pA3, pB3, fun H4 pd s5 hpd h5 => ?_⟩
          have e5 := s5 _ _ e4
          have od4 : H4 od = some (.lst (refs Lo)) := s5 _ _ (s4 _ _ e1)
          refine ⟨_, rfl, .inl ⟨rfl, _, SqL.of e5⟩, _, rfl, od, rfl, ⟨_, SqL.of od4⟩, fun D hD => ?_⟩
          have hDrw : D ≠ rw' := fun z => by rw [z, e5] at hD; cases hD
          refine lc_list (K := K) (a := od) (xs := refs Lo) (fun c H5 => Same H4 H5 ∧ H5 D = some (.lst (((LA.prodZ n (i + 1) d ya.2 yb.2).take c).map V.int))) ⟨same_upd hD, by rw [upd_same]; rfl⟩
            (fun c H5 _ ⟨s6, _⟩ => SqL.of (s6 _ _ od4)) ?_ ?_
          · rintro c z H5 hz ⟨s6, e6⟩
            obtain ⟨po, hpo, rfl⟩ := refs_at hz
            obtain ⟨epo, mpo⟩ := mono_at q1 hpo
            have hc := (List.getElem?_eq_some_iff.mp hpo).1
            have tpo := s6 _ _ (s5 _ _ (s4 _ _ (t1.at hpo)))
            rw [epo] at tpo
            refine ⟨rfl, ?_⟩
            refine ⟨_, rfl, pd, rfl, .inr ⟨_, .inl (s6 _ _ h5)⟩, _, rfl, _, DGet.t (k := mkey (LA.mk n d c)) (s6 _ _ h5) (by rw [mkeyV]; exact tpo), ?_⟩
            refine ⟨_, e6, small1000 (by rw [List.length_map, List.length_take]; omega), fun b o hb => ?_, ?_⟩
            · rw [upd_ne (ne_of_none hb hD)]
              exact s6 b o hb
            · have ec : (LA.prodZ n (i + 1) d ya.2 yb.2)[c]? = some (LA.dget (LA.prodD (LA.polyD n (i + 1) ya.2) (LA.polyD n (d - (i + 1)) yb.2)) (LA.mk n d c)) := by
                have hc2 : c < (Wp04.monos n d).length := by omega
                simp [LA.prodZ, LA.coefs, LA.mk, List.getElem?_map, List.getElem?_eq_getElem hc2, List.getD_eq_getElem?_getD]
              rw [upd_same, (kd_val _ _).1, List.take_add_one, ec]
              simp
          · rintro H5 ⟨s6, e6⟩
            rw [len_refs, hLo, List.take_of_length_le (by rw [LA.prodZ_len]; exact Nat.le_refl _)] at e6
            have lenR : R.length ≤ 6 * 441 := by
              have := congrArg List.length q4
              rw [List.length_map, List.length_append, List.length_map, List.length_map, List.length_take] at this
              omega
            have e6r : H5 rw' = some (.lst (refs R)) := s6 _ _ e5
            refine ⟨rw', _, _, rfl, rfl, e6r, small4k (by rw [len_refs]; omega), ?_⟩
            refine ⟨R ++ [(D, LA.prodZ n (i + 1) d ya.2 yb.2)], some (.ref yb.1), some (.ref pd), rfl, fun b o hb => ?_, ?_, fun r hr' => ?_, fun r hr' => ?_, ?_⟩
            · rw [upd_ne (ne_of_none hb hrw)]
              exact s6 _ _ (s5 _ _ (s4 _ _ hb))
            · rw [upd_same]; simp [refs]
            · rcases List.mem_append.mp hr' with hr' | hr'
              · rw [upd_ne (ne4 r hr')]
                exact s6 _ _ (s5 _ _ (rl4 r hr'))
              · rw [List.mem_singleton.mp hr', upd_ne hDrw]
                exact e6
            · rcases List.mem_append.mp hr' with hr' | hr'
              · exact ne4 r hr'
              · rw [List.mem_singleton.mp hr']
                exact hDrw
            · rw [List.map_append, q4, List.take_add_one, hyb, List.map_append (l₂ := Option.toList _), List.map_append (l₂ := List.map _ (Option.toList _)), List.append_assoc]
              rfl
        · rintro σ H3 ⟨R, v7, v8, rfl, s4, e4, rl4, ne4, q4⟩
          rw [len_refs, List.take_length, flB.2.2] at q4
          refine ⟨R, some (.ref ya.1), v7, v8, rfl, s4, e4, rl4, ne4, ?_⟩
          rw [q4]
          simp
      · rintro σ H2 ⟨R, v6, v7, v8, rfl, s3, e3, rl3, ne3, q3⟩
        rw [len_refs, List.take_length, flA.2.2] at q3
        refine ⟨R, some (.int (1 + i)), v6, v7, v8, rfl, s3, e3, rl3, ne3, ?_⟩
        rw [q3, List.range_succ, List.flatMap_append, hPi]
        simp
    · rintro σ H' ⟨R, v5, v6, v7, v8, rfl, s2, e2, rl2, ne2, q2⟩
      have q2' : R.map (·.2) = LA.prodsZ n S d := q2
      have inR : ∀ r ∈ R, r.2 ∈ LA.prodsZ n S d := fun r hr' => by
        rw [← q2']
        exact List.mem_map_of_mem hr'
      have lenR : R.length ≤ 4 * 441 := by
        have h0 := congrArg List.length q2
        have h1 := flat_len (fun i => (S (i + 1)).flatMap fun a => (S (d - (i + 1))).map fun b => LA.prodZ n (i + 1) d a b) 441 (List.range (d / 2)) fun j hj => by
          have := List.mem_range.mp hj
          exact low.len (by omega) _ (low.few _ (by omega))
        rw [List.length_range] at h1
        have h2 : (d / 2) * 441 ≤ 4 * 441 := Nat.mul_le_mul_right _ (by omega)
        rw [List.length_map] at h0
        omega
      refine ⟨_, rfl, rw', R, (Wp04.monos n d).length, 2 ^ 80010, 1800000, rfl, e2, rl2, fun r hr' => (low.le _ (inR r hr')).1, by omega, N21.1, by omega, Nat.one_le_two_pow, fun r hr' => (low.le _ (inR r hr')).2, LA.pow18 N21.2, by decide, by decide, fun H2 p2 G2 s3 n3 h3 r3 e3 => ?_⟩
      rw [q2'] at e3
      have sH : Same H H' := s1.trans s2
      exact k H2 p2 G2 (sH.trans s3) (sH.free n3) h3 r3 e3
end LF
end
section
set_option maxRecDepth 100000
set_option maxHeartbeats 4000000
namespace LF
open PySem PySem.Spec PyProof.Rows L2
variable {P : Program} {w : World} {K : PySem.W.Frag} {mg : Str → Option Value} {base : Heap}
theorem GrOk.low {H : Hp} {n : Nat} {g : Addr} {G : List (Addr × List Int)} (h : GrOk H n g G) {d : Nat} (hd : d ≤ LA.most n) : LowOk n (LA.stayZ n (G.map (·.2))) d where
  hn := h.hn
  dm := hd
  row := fun e he => h.rows (by omega)
  few := fun e he => Nat.le_trans LA.stayZ_len (LA.monos_21 h.hn (by omega)).2
/-! ### counts_of_new -/
abbrev sCn : Stmt := top 36
def NCn : List Str := ["n", "group", "d", "lower_ones", "counts", "new", "degree"]
theorem scCn : FnScope NCn ["n", "group", "d"] (defScope sCn) := ⟨rfl, rfl, rfl, by decide +kernel, rfl, by decide +kernel, by decide +kernel⟩
/-- how many are new, degree by degree -/
def newL (n : Nat) (g : List (List Int)) (c : Nat → Int) (d : Nat) : List Int := 0 :: (List.range d).map fun i => c (i + 1) - ((LA.madeZ n g (i + 1)).length : Int)
/-- counts_of_new -/
def spCn : Sp := fun vs H Q _ => ∃ (n : Nat) (g : Addr) (G : List (Addr × List Int)) (d : Nat) (c : Nat → Int), vs = [.int n, .ref g, .int d] ∧ GrOk H n g G ∧ d ≤ LA.most n ∧ (∀ p ∈ G, ∀ k, Bd 1000 (Wp04.powerOf n p.2 k)) ∧ (∀ e, e ≤ d → (G.map fun p => LA.Tt n p.2 e).sum = (G.length : Int) * c e) ∧
  ∀ (H' : Hp) (p : Addr), Same H H' → H p = none → H' p = some (.lst ((newL n (G.map (·.2)) c d).map V.int)) → Q (.ref p) H'
theorem ok_cn {f : Addr} {fd : FuncData} (F : Fun K "counts_of_new" "counts_of_new" sCn f fd) (B : Bi mg) (cP : Cal P w K mg base "polynomials_that_stay" 44 ["n", "group", "d"] spPs) (cC : Cal P w K mg base "counts_that_stay" 4 ["n", "group", "d"] spCs) (cR : Cal P w K mg base "rows_made_of_lower" 43 ["n", "lower_ones", "d"] spRm) :
    FnOk P w K mg base CX0 45 f fd ["n", "group", "d"] spCn := by
  refine F.ok scCn (fun vs H Q E h => ?_) (fun cdv A outer s H vs Q E hr h => ?_)
  · obtain ⟨n, g, G, d, c, rfl, _⟩ := h
    rfl
  · have nd : NCn.Nodup := scCn.nd
    have hr4 : Room 4 _ := hr.mono (by decide)
    have hr43 : Room 43 _ := hr.mono (by decide)
    obtain ⟨n, g, G, d, c, rfl, gr, hd, hpw, hc, k⟩ := h
    refine ⟨_, pss_cons (ps_set (i := 3) nd rfl (Or.inl rfl) (pe_call cP.ok hr (by rfl) cP.mgx cP.kp cP.b .nil pass0 (pa_cons (pv 0) (pa_cons (pv 1) (pa_cons (pe_op op_sub (pv 2) pe_int) pa_nil)))))
      (pss_cons (ps_set (i := 4) nd rfl (Or.inl rfl) (pe_call cC.ok hr4 (by rfl) cC.mgx cC.kp cC.b .nil pass0 (pa_cons (pv 0) (pa_cons (pv 1) (pa_cons (pv 2) pa_nil)))))
      (pss_cons (ps_set (i := 5) nd rfl (Or.inl rfl) (pe_lst (pa_cons pe_int pa_nil)))
      (pss_cons (ps_for PassesOwn.never rfl (pi_range2 (by rfl) B.range (pa_cons pe_int (pa_cons (pe_op op_add (pv 2) pe_int) pa_nil))) (pg_name (i := 6) nd rfl (Or.inl rfl))
        (pss_one (ps_expr (pe_bm PySem.F.plainAttrs_list PySem.F.slot_list_append PySem.F.type_list_append mt_append (pv 5) (pa_cons
          (pe_op op_sub (pe_ix (r := rIxL K) ix_list (pv 4) (pv 6) (fun _ _ => rfl)) (pe_callB call_len_seq (by rfl) B.len PySem.boot_len (pa_cons (pe_call cR.ok hr43 (by rfl) cR.mgx cR.kp cR.b .nil pass0 (pa_cons (pv 0) (pa_cons (pv 3) (pa_cons (pv 6) pa_nil)))) pa_nil))) pa_nil)))))
      (pss_one (ps_ret (pv 5)))))), ?_⟩
    have d8 : d ≤ 8 := Nat.le_trans (LA.most_bnd hd) LA.bnd8
    refine ⟨_, rfl, _, rfl, _, rfl, _, _, rfl, rfl, n, g, G, d, rfl, gr, hd, fun H1 lo F s1 hlo e1 lF' fl => ?_⟩
    have gr1 := gr.same s1
    refine ⟨_, rfl, _, rfl, _, rfl, n, g, G, d, c, rfl, gr.hn, d8, gr1.at_, gr1.tl, fun p hp => ⟨(gr.ok p hp).1, hpw p hp⟩, gr.one, Nat.le_trans gr.few (by decide), hc, fun H2 ct s2 hct e2 => ?_⟩
    refine ⟨show 1 ≤ sizeLine by decide, fun nw hnw => ?_⟩
    have s3 := same_upd (o := HO.lst [V.int 0]) hnw
    have s03 : Same H (upd H2 nw (.lst [.int 0])) := (s1.trans s2).trans s3
    have hnwH : H nw = none := (s1.trans s2).free hnw
    refine ⟨_, rfl, _, _, rfl, rfl, (1 : Int), (d : Int) + 1, rfl, by omega, ?_⟩
    rw [show ((d : Int) + 1 - 1).toNat = d by omega]
    refine for_range (lo := 1) (n := d) (fun i σ H' => ∃ v6, σ = [some (.int n), some (.ref g), some (.int d), some (.ref lo), some (.ref ct), some (.ref nw), v6] ∧ Same H2 H' ∧ H' nw = some (.lst ((newL n (G.map (·.2)) c i).map V.int)))
      ⟨none, rfl, s3, by rw [upd_same]; rfl⟩ ?_ ?_
    · rintro i σ H' hi ⟨v6, rfl, s4, e4⟩
      have hct4 := s4 _ _ e2
      refine ⟨_, rfl, .inl ⟨rfl, _, SqL.of e4⟩, _, rfl, _, rfl, ct, _, _, _, rfl, rfl, SqL.of hct4, at_of (j := i + 1) (by omega) (getD_map (by simp; omega)), ?_⟩
      refine ⟨_, rfl, _, rfl, _, rfl, n, lo, F, LA.stayZ n (G.map (·.2)), i + 1, ?_, gr.low (by omega), s4 _ _ (s2 _ _ e1), (fl.same s2).same s4, by omega, fun H5 p5 R s5 n5 e5 rl5 q5 => ?_⟩
      · show [V.int n, V.ref lo, V.int (1 + i)] = _
        rw [show ((1 : Int) + i) = ((i + 1 : Nat) : Int) by omega]
      refine ⟨p5, _, rfl, .inl (SqL.of e5), ?_⟩
      refine ⟨_, _, rfl, rfl, ?_⟩
      have e6 := s5 _ _ e4
      have lnew : (newL n (G.map (·.2)) c i).length = i + 1 := by simp [newL]
      refine ⟨nw, _, _, rfl, rfl, e6, small1000 (by rw [List.length_map, lnew]; omega), ?_⟩
      refine ⟨some (.int (1 + i)), rfl, fun b o hb => ?_, ?_⟩
      · rw [upd_ne (ne_of_none hb hnw)]
        exact s5 _ _ (s4 _ _ hb)
      · have lR : ((refs R).length : Int) = ((LA.madeZ n (G.map (·.2)) (i + 1)).length : Int) := by
          rw [len_refs, ← List.length_map (f := (·.2)), q5]
          rfl
        have cI : ((List.range (d + 1)).map c).getD (i + 1) 0 = c (i + 1) := by
          simp [List.getD_eq_getElem?_getD, show i + 1 < d + 1 by omega]
        rw [upd_same, lR, cI]
        unfold newL
        rw [List.range_succ, List.map_append]
        simp
    · rintro σ H' ⟨v6, rfl, s4, e4⟩
      exact ⟨_, rfl, k H' nw ((s1.trans s2).trans s4) hnwH e4⟩
/-! ### is_made_of_lower -/
abbrev sIo : Stmt := top 37
def NIo : List Str := ["n", "group", "d", "polynomial", "lower_ones"]
theorem scIo : FnScope NIo ["n", "group", "d", "polynomial"] (defScope sIo) := ⟨rfl, rfl, rfl, by decide +kernel, rfl, by decide +kernel, by decide +kernel⟩
/-- is_made_of_lower -/
def spIo : Sp := fun vs H Q _ => ∃ (n : Nat) (g : Addr) (G : List (Addr × List Int)) (d : Nat) (a : Addr) (r : List Int), vs = [.int n, .ref g, .int d, .ref a] ∧ GrOk H n g G ∧ d ≤ LA.most n ∧ H a = some (.lst (r.map V.int)) ∧ r.length = (Wp04.monos n d).length ∧ (∀ z ∈ r, z.natAbs ≤ 1000) ∧
  ∀ H' : Hp, Same H H' → Q (.bl (!((LA.clearAll (LA.madeZ n (G.map (·.2)) d) r).any fun z => z != 0))) H'
theorem ok_io {f : Addr} {fd : FuncData} (F : Fun K "is_made_of_lower" "is_made_of_lower" sIo f fd) (cP : Cal P w K mg base "polynomials_that_stay" 44 ["n", "group", "d"] spPs) (cR : Cal P w K mg base "rows_made_of_lower" 43 ["n", "lower_ones", "d"] spRm) (cI : Cal P w K mg base "is_made_of" 42 ["row", "rows"] spIm) :
    FnOk P w K mg base CX0 45 f fd ["n", "group", "d", "polynomial"] spIo := by
  refine F.ok scIo (fun vs H Q E h => ?_) (fun cdv A outer s H vs Q E hr h => ?_)
  · obtain ⟨n, g, G, d, a, r, rfl, _⟩ := h
    rfl
  · have nd : NIo.Nodup := scIo.nd
    have hr43 : Room 43 _ := hr.mono (by decide)
    have hr42 : Room 42 _ := hr.mono (by decide)
    obtain ⟨n, g, G, d, a, r, rfl, gr, hd, ha, lr, br, k⟩ := h
    refine ⟨_, pss_cons (ps_set (i := 4) nd rfl (Or.inl rfl) (pe_call cP.ok hr (by rfl) cP.mgx cP.kp cP.b .nil pass0 (pa_cons (pv 0) (pa_cons (pv 1) (pa_cons (pe_op op_sub (pv 2) pe_int) pa_nil)))))
      (pss_one (ps_ret (pe_call cI.ok hr42 (by rfl) cI.mgx cI.kp cI.b .nil pass0 (pa_cons (pv 3) (pa_cons (pe_call cR.ok hr43 (by rfl) cR.mgx cR.kp cR.b .nil pass0 (pa_cons (pv 0) (pa_cons (pv 4) (pa_cons (pv 2) pa_nil)))) pa_nil))))), ?_⟩
    have low := gr.low hd
    obtain ⟨N1, N21⟩ := LA.monos_21 gr.hn hd
    refine ⟨_, rfl, _, rfl, _, rfl, _, _, rfl, rfl, n, g, G, d, rfl, gr, hd, fun H1 lo F s1 hlo e1 lF' fl => ?_⟩
    refine ⟨_, rfl, _, rfl, _, rfl, _, rfl, n, lo, F, LA.stayZ n (G.map (·.2)), d, rfl, low, e1, fl, by omega, fun H2 p2 R s2 n2 e2 rl2 q2 => ?_⟩
    have inR : ∀ x ∈ R, x.2 ∈ (LA.elimAt (LA.prodsZ n (LA.stayZ n (G.map (·.2))) d) (Wp04.monos n d).length).2 := fun x hx => by
      rw [← q2]
      exact List.mem_map_of_mem hx
    have lR : R.length ≤ 21 := by
      have h1 := (LA.elim_len (LA.prodsZ_len (n := n) (S := LA.stayZ n (G.map fun (x : Addr × List Int) => x.2)) (d := d))).1
      have h2 := congrArg List.length q2
      rw [List.length_map] at h2
      omega
    refine ⟨a, p2, r, R, (Wp04.monos n d).length, 1800000, rfl, s2 _ _ (s1 _ _ ha), e2, rl2, lr, by omega, fun x hx => low.made _ (inR x hx), fun j => Nat.lt_of_le_of_lt (le1000 br j) (by decide), by omega, by decide, fun H3 s3 => ?_⟩
    rw [q2]
    exact k H3 ((s1.trans s2).trans s3)
end LF
end
section
set_option maxRecDepth 100000
set_option maxHeartbeats 4000000
namespace LF
open PySem PySem.Spec PyProof.Rows L2
variable {P : Program} {w : World} {K : PySem.W.Frag} {mg : Str → Option Value} {base : Heap} {C z0 : Addr}
abbrev sGr : Stmt := inClass (top 57) 3
def NGr : List Str := ["self", "answer", "table"]
theorem scGr : FnScope NGr ["self"] (defScope sGr) := ⟨rfl, rfl, rfl, by decide +kernel, rfl, by decide +kernel, by decide +kernel⟩
/-- an answer, the line as it was -/
theorem ans_same {H H' : Hp} {a p : Addr} {s : Wp04.State} {c : Wp04.Call} {zs : List Int} {Q : VK} (A : Ans C z0 c a s H Q) (L : LineAt C z0 H a s) (e : Wp04.step s c = (s, zs)) (k : Same H H') (hp : H p = none) (h : H' p = some (.lst (zs.map V.int))) : Q (.ref p) H' := by
  refine A _ p ?_ (.of k) hp ?_
  · rw [e]
    exact L.same k
  · rw [e]
    exact h
/-- group -/
def spGr (C : Addr) : Sp := fun vs H Q _ => ∃ (z0 a : Addr) (s : Wp04.State), vs = [.ref a] ∧ LineAt C z0 H a s ∧ Ans C z0 .group a s H Q
theorem flat_le {n : Nat} : ∀ {G : List (List Int)}, (∀ p ∈ G, p.length = n) → (G.flatMap fun t => t).length = G.length * n
  | [], _ => by simp
  | p :: G, h => by
    rw [List.flatMap_cons, List.length_append, flat_le (fun q hq => h q (List.mem_cons_of_mem _ hq)), h p (List.mem_cons_self ..), List.length_cons, Nat.succ_mul]
    omega
theorem ok_gr {f : Addr} {fd : FuncData} (F : Fun K "group" "Line.group" sGr f fd) (B : Bi mg) (T : LTxt K C) : FnOk P w K mg base CX0 1 f fd ["self"] (spGr C) := by
  refine F.ok scGr (fun vs H Q E h => ?_) (fun cdv A outer s H vs Q E hr h => ?_)
  · obtain ⟨z0, a, s, rfl, _⟩ := h
    rfl
  · have nd : NGr.Nodup := scGr.nd
    obtain ⟨z0, a, st, rfl, L, k⟩ := h
    refine ⟨_, pss_cons (ps_set (i := 1) nd rfl (Or.inl rfl) (pe_lst (pa_cons (pe_callB call_len_seq (by rfl) B.len PySem.boot_len (pa_cons (pe_fld (pv 0) rfl) pa_nil)) pa_nil)))
      (pss_cons (ps_for PassesOwn.never rfl (pi_list (pe_fld (pv 0) rfl)) (pg_name (i := 2) nd rfl (Or.inl rfl))
        (pss_one (ps_expr (pe_bm PySem.F.plainAttrs_list PySem.F.slot_list_extend PySem.F.type_list_extend mt_extT (pv 1) (pa_cons (pv 2) pa_nil)))))
      (pss_one (ps_ret (pv 1)))), ?_⟩
    have L0 := L
    obtain ⟨dx, tl, tb, TT, G, hp, htl, hTT, eT, htb, hG, eG, S, _⟩ := L
    have lens : ∀ t ∈ G.map (·.2), t.length = st.n * st.n := by
      rw [eG]
      exact LA.group_lens S.few
    have gl : G.length ≤ 48 := by
      have := S.few
      rw [← eG, List.length_map] at this
      exact this
    have n9 : st.n * st.n ≤ 9 := by rcases S.ok.hn with h | h <;> rw [h] <;> decide
    have small : ∀ i : Nat, (((G.take i).map (·.2)).flatMap (fun t => t)).length ≤ 432 := fun i => by
      rw [flat_le (n := st.n * st.n) (fun p hp => lens p (by
        obtain ⟨x, hx, rfl⟩ := List.mem_map.mp hp
        exact List.mem_map_of_mem (List.mem_of_mem_take hx))), List.length_map, List.length_take]
      calc min i G.length * (st.n * st.n) ≤ 48 * 9 := Nat.mul_le_mul (by omega) n9
        _ ≤ 432 := by decide
    refine ⟨_, rfl, a, C, dx, _, _, rfl, hp, T.cl, T.nG, lF_g _ _ _, tb, _, rfl, .inl (SqL.of htb), (by show 1 ≤ sizeLine; decide), fun p hp' => ?_⟩
    have s1 := same_upd (o := HO.lst [V.int ((refs G).length : Int)]) hp'
    refine ⟨_, rfl, a, C, dx, _, _, rfl, s1 _ _ hp, T.cl, T.nG, lF_g _ _ _, tb, rfl, ⟨_, SqL.of (s1 _ _ htb)⟩, ?_⟩
    refine for_list (K := K) (a := tb) (xs := refs G) (fun i σ H' => ∃ v : Option V, σ = [some (.ref a), some (.ref p), v] ∧ Same H H' ∧ H' p = some (.lst (((G.length : Int) :: ((G.take i).map (·.2)).flatMap fun t => t).map V.int)))
      ⟨none, rfl, s1, by rw [upd_same, len_refs]; rfl⟩ (fun i σ H' _ ⟨_, _, s2, _⟩ => SqL.of (s2 _ _ htb)) ?_ ?_
    · rintro i y σ H' hi ⟨v, rfl, s2, h2⟩
      obtain ⟨q, hq, rfl⟩ := refs_at hi
      have hqt := hG.at hq
      refine ⟨_, rfl, .inl ⟨rfl, _, SqL.of h2⟩, _, rfl, p, q.1, _, _, rfl, rfl, h2, SqT.of (s2 _ _ hqt), ?_, ?_⟩
      · have a1 := small i
        have a2 := lens q.2 (List.mem_map_of_mem (List.mem_of_getElem? hq))
        simp only [List.length_map, List.length_cons]
        exact Nat.le_trans (by omega : _ ≤ 1000) (by decide)
      · refine ⟨some (.ref q.1), rfl, fun b o hb => ?_, ?_⟩
        · rw [upd_ne (ne_of_none hb hp')]
          exact s2 _ _ hb
        · rw [upd_same, List.take_add_one, hq]
          simp
    · rintro σ H' ⟨v, rfl, s2, h2⟩
      rw [len_refs, List.take_length] at h2
      refine ⟨_, rfl, ans_same k L0 (LA.step_group (s := st)) s2 hp' ?_⟩
      rw [h2, ← eG, List.length_map]
end LF
end
section
set_option maxRecDepth 100000
set_option maxHeartbeats 4000000
namespace LF
open PySem PySem.Spec PyProof.Rows L2
variable {P : Program} {w : World} {K : PySem.W.Frag} {mg : Str → Option Value} {base : Heap} {C : Addr}
/-- a method that keeps its promise -/
structure MCal (P : Program) (w : World) (K : PySem.W.Frag) (mg : Str → Option Value) (base : Heap) (C : Addr) (x : Str) (k : Nat) (ps : List Str) (sp : Sp) where
  f : Addr
  fd : FuncData
  ok : FnOk P w K mg base CX0 k f fd ps sp
  me : Meth K C x f
  b : Binds K fd ps []
/-- a method's name is no field -/
theorem lF_none {n : Int} {tl tb : Addr} {x : Str} (h : (x == Str.ofString "unknowns") = false ∧ (x == Str.ofString "told") = false ∧ (x == Str.ofString "tables") = false) : (lF n tl tb).lookup x = none :=
  (lkP h.1).trans ((lkP h.2.1).trans ((lkP h.2.2).trans rfl))
abbrev sCo : Stmt := inClass (top 57) 4
def NCo : List Str := ["self", "d"]
theorem scCo : FnScope NCo ["self", "d"] (defScope sCo) := ⟨rfl, rfl, rfl, by decide +kernel, rfl, by decide +kernel, by decide +kernel⟩
/-- counts -/
def spCo (C : Addr) : Sp := fun vs H Q _ => ∃ (z0 a : Addr) (s : Wp04.State) (z : Int), vs = [.ref a, .int z] ∧ LineAt C z0 H a s ∧ Ans C z0 (.counts z) a s H Q
theorem ok_co {f : Addr} {fd : FuncData} (F : Fun K "counts" "Line.counts" sCo f fd) (T : LTxt K C) {tk : Tok} (hN : mg "NOT_ALLOWED" = some (.int (-1) tk)) (mA : MCal P w K mg base C "allows_degree" 1 ["self", "d"] (spAd C)) (cC : Cal P w K mg base "counts_that_stay" 4 ["n", "group", "d"] spCs) :
    FnOk P w K mg base CX0 5 f fd ["self", "d"] (spCo C) := by
  refine F.ok scCo (fun vs H Q E h => ?_) (fun cdv A outer s H vs Q E hr h => ?_)
  · obtain ⟨z0, a, s, z, rfl, _⟩ := h
    rfl
  · have nd : NCo.Nodup := scCo.nd
    have hr1 : Room 1 _ := hr.mono (by decide)
    obtain ⟨z0, a, st, z, rfl, L, k⟩ := h
    refine ⟨_, pss_cons (ps_if (pt_not (pt_val (pe_meth (pv 0) T.cl mA.me mA.ok hr1 mA.b .nil pass0 (pa_cons (pv 1) pa_nil)))) (pss_one (ps_ret (pe_lst (pa_cons (pe_glob (v := .int (-1)) rfl hN ⟨_, rfl⟩) pa_nil)))) pss_nil)
      (pss_one (ps_ret (pe_call cC.ok hr (by rfl) cC.mgx cC.kp cC.b .nil pass0 (pa_cons (pe_fld (pv 0) rfl) (pa_cons (pe_fld (pv 0) rfl) (pa_cons (pv 1) pa_nil)))))), ?_⟩
    have L0 := L
    obtain ⟨dx, tl, tb, TT, G, hp, htl, hTT, eT, htb, hG, eG, S, _⟩ := L
    refine ⟨_, rfl, a, dx, _, rfl, hp, lF_none (by decide +kernel), _, rfl, z0, a, st, z, rfl, L0, _, rfl, ?_⟩
    by_cases c : 0 ≤ z ∧ z ≤ LA.most st.n
    · refine ifF (by show (!decide _) = false; rw [decide_eq_true c]; rfl) ?_
      obtain ⟨d, rfl⟩ : ∃ d : Nat, z = (d : Int) := ⟨z.toNat, by omega⟩
      have hd : d ≤ LA.most st.n := by omega
      have lenG : G.length = (Wp04.group st.n st.gens).length := by rw [← eG, List.length_map]
      have inG : ∀ p ∈ G, p.2 ∈ Wp04.group st.n st.gens := fun p hp' => by
        rw [← eG]
        exact List.mem_map_of_mem hp'
      have few := S.few
      refine ⟨_, rfl, a, C, dx, _, _, rfl, hp, T.cl, T.nU, lF_u _ _ _, _, rfl, a, C, dx, _, _, rfl, hp, T.cl, T.nG, lF_g _ _ _, _, rfl, st.n, tb, G, d, (fun e => ((Wp04.stay st.n e (Wp04.group st.n st.gens)).length : Int)), rfl, S.ok.hn, ?_, htb, hG, ?_, ?_, ?_, ?_, fun H' p s1 np h1 => ?_⟩
      · exact Nat.le_trans (LA.most_bnd hd) LA.bnd8
      · exact fun p hp' => ⟨LA.group_lens few _ (inG p hp'), fun j z hz => Nat.lt_of_lt_of_le (GC.group_short S.gi few (LA.power_mem S.ok few (inG p hp') j) z hz) (Nat.pow_le_pow_right (by decide) (by decide))⟩
      · have := LA.group_one few
        omega
      · omega
      · intro e he
        have := LA.sum_Tt S.ok few (d := e) (LA.most_bnd (by omega))
        rw [lenG, ← this, ← eG, List.map_map]
        rfl
      · exact ans_same k L0 (LA.step_counts S hd) s1 np h1
    · refine ifT (by show (!decide _) = true; rw [decide_eq_false c]; rfl) ?_
      refine ⟨(by show 1 ≤ sizeLine; decide), fun p hp' => ?_⟩
      exact ans_one k L0 (LA.step_countsN c) (fun _ _ h => h) hp'
/-- the line's group -/
theorem gr_of {H : Hp} {tb : Addr} {G : List (Addr × List Int)} {s : Wp04.State} (S : LA.LSt s) (htb : H tb = some (.lst (refs G))) (hG : TL H G) (eG : G.map (·.2) = Wp04.group s.n s.gens) : GrOk H s.n tb G := by
  have inG : ∀ p ∈ G, p.2 ∈ Wp04.group s.n s.gens := fun p hp' => by
    rw [← eG]
    exact List.mem_map_of_mem hp'
  have lenG : G.length = (Wp04.group s.n s.gens).length := by rw [← eG, List.length_map]
  have few := S.few
  have one := LA.group_one few
  exact ⟨S.ok.hn, htb, hG, fun p hp' => ⟨LA.group_lens few _ (inG p hp'), GC.group_short S.gi few (inG p hp')⟩, by omega, by omega⟩
abbrev sSt : Stmt := inClass (top 57) 5
def NSt : List Str := ["self", "d", "rows", "answer", "row"]
theorem scSt : FnScope NSt ["self", "d"] (defScope sSt) := ⟨rfl, rfl, rfl, by decide +kernel, rfl, by decide +kernel, by decide +kernel⟩
/-- stay -/
def spSt (C : Addr) : Sp := fun vs H Q _ => ∃ (z0 a : Addr) (s : Wp04.State) (z : Int), vs = [.ref a, .int z] ∧ LineAt C z0 H a s ∧ Ans C z0 (.stay z) a s H Q
/-- a row told by its first number -/
def toldRow (row : List Int) : List Int := LA.toldBy row (LA.fi row (LA.lead row))
theorem told_sum {N : Nat} : ∀ {l : List (List Int)}, (∀ r ∈ l, r.length = N) → (l.flatMap toldRow).length = l.length * (2 * N)
  | [], _ => by simp
  | r :: l, h => by
    rw [List.flatMap_cons, List.length_append, told_sum (fun q hq => h q (List.mem_cons_of_mem _ hq)), List.length_cons]
    unfold toldRow
    rw [LA.toldBy_len, h r (List.mem_cons_self ..), Nat.add_mul, Nat.one_mul, Nat.add_comm]
theorem ok_st {f : Addr} {fd : FuncData} (F : Fun K "stay" "Line.stay" sSt f fd) (B : Bi mg) (T : LTxt K C) {tk : Tok} (hN : mg "NOT_ALLOWED" = some (.int (-1) tk)) (mA : MCal P w K mg base C "allows_degree" 1 ["self", "d"] (spAd C)) (cR : Cal P w K mg base "rows_that_stay" 43 ["n", "group", "d"] spRs)
    (cF : Cal P w K mg base "first_place" 1 ["row"] spFn) (cT : Cal P w K mg base "told_row" 41 ["row", "below"] spTr) : FnOk P w K mg base CX0 44 f fd ["self", "d"] (spSt C) := by
  refine F.ok scSt (fun vs H Q E h => ?_) (fun cdv A outer s H vs Q E hr h => ?_)
  · obtain ⟨z0, a, s, z, rfl, _⟩ := h
    rfl
  · have nd : NSt.Nodup := scSt.nd
    have hr1 : Room 1 _ := hr.mono (by decide)
    have hr41 : Room 41 _ := hr.mono (by decide)
    obtain ⟨z0, a, st, z, rfl, L, k⟩ := h
    refine ⟨_, pss_cons (ps_if (pt_not (pt_val (pe_meth (pv 0) T.cl mA.me mA.ok hr1 mA.b .nil pass0 (pa_cons (pv 1) pa_nil)))) (pss_one (ps_ret (pe_lst (pa_cons (pe_glob (v := .int (-1)) rfl hN ⟨_, rfl⟩) pa_nil)))) pss_nil)
      (pss_cons (ps_set (i := 2) nd rfl (Or.inl rfl) (pe_call cR.ok hr (by rfl) cR.mgx cR.kp cR.b .nil pass0 (pa_cons (pe_fld (pv 0) rfl) (pa_cons (pe_fld (pv 0) rfl) (pa_cons (pv 1) pa_nil)))))
      (pss_cons (ps_set (i := 3) nd rfl (Or.inl rfl) (pe_lst (pa_cons (pe_callB call_len_seq (by rfl) B.len PySem.boot_len (pa_cons (pv 2) pa_nil)) pa_nil)))
      (pss_cons (ps_for PassesOwn.never rfl (pi_list (pv 2)) (pg_name (i := 4) nd rfl (Or.inl rfl))
        (pss_one (ps_expr (pe_bm PySem.F.plainAttrs_list PySem.F.slot_list_extend PySem.F.type_list_extend mt_extend (pv 3) (pa_cons (pe_call cT.ok hr41 (by rfl) cT.mgx cT.kp cT.b .nil pass0 (pa_cons (pv 4) (pa_cons (pe_ix (r := rIxL K) ix_list (pv 4) (pe_call cF.ok hr1 (by rfl) cF.mgx cF.kp cF.b .nil pass0 (pa_cons (pv 4) pa_nil)) (fun _ _ => rfl)) pa_nil))) pa_nil)))))
      (pss_one (ps_ret (pv 3)))))), ?_⟩
    have L0 := L
    obtain ⟨dx, tl, tb, TT, G, hp, htl, hTT, eT, htb, hG, eG, S, _⟩ := L
    refine ⟨_, rfl, a, dx, _, rfl, hp, lF_none (by decide +kernel), _, rfl, z0, a, st, z, rfl, L0, _, rfl, ?_⟩
    by_cases c : 0 ≤ z ∧ z ≤ LA.most st.n
    · refine ifF (by show (!decide _) = false; rw [decide_eq_true c]; rfl) ?_
      obtain ⟨d, rfl⟩ : ∃ d : Nat, z = (d : Int) := ⟨z.toNat, by omega⟩
      have hd : d ≤ LA.most st.n := by omega
      have hn := S.ok.hn
      obtain ⟨m1, m2⟩ := LA.monos_21 hn hd
      refine ⟨_, rfl, a, C, dx, _, _, rfl, hp, T.cl, T.nU, lF_u _ _ _, _, rfl, a, C, dx, _, _, rfl, hp, T.cl, T.nG, lF_g _ _ _, _, rfl, st.n, tb, G, d, rfl, gr_of S htb hG eG, hd, fun H2 p2 G2 s2 n2 h2 r2 e2 => ?_⟩
      rw [eG] at e2
      obtain ⟨b1, b2⟩ := LA.elim_len (LA.sumRows_len (n := st.n) (d := d) (g := Wp04.group st.n st.gens))
      have nz := LA.elim_nz (LA.sumRows_len (n := st.n) (d := d) (g := Wp04.group st.n st.gens))
      have es := LA.step_stay S hd
      unfold LA.stayZ at e2
      rw [← e2] at b1 b2 nz es
      rw [List.length_map] at b1
      refine ⟨_, rfl, p2, _, rfl, .inl (SqL.of h2), (by show 1 ≤ sizeLine; decide), fun p hp' => ?_⟩
      have s3 := same_upd (o := HO.lst [V.int ((refs G2).length : Int)]) hp'
      refine ⟨_, rfl, p2, rfl, ⟨_, SqL.of (s3 _ _ h2)⟩, ?_⟩
      refine for_list (K := K) (a := p2) (xs := refs G2) (fun i σ H' => ∃ v : Option V, σ = [some (.ref a), some (.int d), some (.ref p2), some (.ref p), v] ∧ Same H2 H' ∧ H' p = some (.lst (((G2.length : Int) :: ((G2.take i).map (·.2)).flatMap toldRow).map V.int)))
        ⟨none, rfl, s3, by rw [upd_same, len_refs]; rfl⟩ (fun i σ H' _ ⟨_, _, s4, _⟩ => SqL.of (s4 _ _ h2)) ?_ ?_
      · rintro i y σ H' hi ⟨v, rfl, s4, h4⟩
        obtain ⟨q, hq, rfl⟩ := refs_at hi
        have hqt := s4 _ _ (r2.at hq)
        have hqm : q.2 ∈ G2.map (·.2) := List.mem_map_of_mem (List.mem_of_getElem? hq)
        have qn := (nz _ hqm).1
        have ql : q.2.length ≤ 1000 := by rw [b2 _ hqm]; omega
        refine ⟨_, rfl, .inl ⟨rfl, _, SqL.of h4⟩, _, rfl, _, rfl, _, rfl, q.1, q.2, rfl, hqt, qn, ql, ?_⟩
        refine ⟨q.1, _, _, _, rfl, rfl, SqL.of hqt, at_of (j := LA.lead q.2) rfl (getD_map (lead_len qn)), ?_⟩
        refine ⟨q.1, q.2, _, rfl, hqt, qn, ql, fun H5 p5 s5 n5 h5 => ?_⟩
        refine ⟨p, p5, _, _, rfl, rfl, s5 _ _ h4, h5, ?_, ?_⟩
        · have a1 : (((G2.take i).map (·.2)).flatMap toldRow).length ≤ 45 * 90 := by
            rw [told_sum (N := (Wp04.monos st.n d).length) (fun r hr' => by
              obtain ⟨x, hx, rfl⟩ := List.mem_map.mp hr'
              exact b2 _ (List.mem_map_of_mem (List.mem_of_mem_take hx))), List.length_map, List.length_take]
            exact Nat.mul_le_mul (by omega) (by omega)
          have a2 : (LA.toldBy q.2 (q.2.getD (LA.lead q.2) 0)).length ≤ 90 := by
            rw [LA.toldBy_len, b2 _ hqm]
            omega
          rw [List.length_map, List.length_map, List.length_cons, sizeLine_eq]
          omega
        · refine ⟨some (.ref q.1), rfl, fun b o hb => ?_, ?_⟩
          · rw [upd_ne (ne_of_none hb hp')]
            exact s5 _ _ (s4 _ _ hb)
          · rw [upd_same, List.take_add_one, hq]
            simp [toldRow, LA.fi]
      · rintro σ H' ⟨v, rfl, s4, h4⟩
        rw [len_refs, List.take_length] at h4
        refine ⟨_, rfl, ans_same k L0 es (s2.trans s4) (s2.free hp') ?_⟩
        have ef : ((G2.map (·.2)).flatMap fun r => (LA.nrm r).flatMap Wp04.told) = (G2.map (·.2)).flatMap toldRow := by
          congr 1
          funext r
          exact (toldBy_nrm r).symm
        rw [h4, List.length_map, ef]
    · refine ifT (by show (!decide _) = true; rw [decide_eq_false c]; rfl) ?_
      refine ⟨(by show 1 ≤ sizeLine; decide), fun p hp' => ?_⟩
      exact ans_one k L0 (LA.step_stayN c) (fun _ _ h => h) hp'
end LF
end
section
set_option maxRecDepth 100000
set_option maxHeartbeats 4000000
namespace LF
open PySem PySem.Spec PyProof.Rows L2
variable {P : Program} {w : World} {K : PySem.W.Frag} {mg : Str → Option Value} {base : Heap} {C : Addr}
theorem raw_end {c : List (List Int)} {u : List Int} (R : LA.Raw c u) : ∃ (p : Nat) (k : Int) (b : Bool), u[0]? = some (p : Int) ∧ whNum[p]? = some k ∧ hasRow[p]? = some b ∧ 0 ≤ k ∧ k ≤ 1 ∧
    (b = false → (u.length : Int) = 1 + k) ∧ (b = true → ∃ m : Nat, u[(1 + k).toNat]? = some (m : Int) ∧ (u.length : Int) = 1 + k + (1 + m)) := by
  cases R with
  | one p x h => rcases h with rfl | rfl | rfl | rfl <;> first | exact ⟨0, 1, false, rfl, rfl, rfl, by decide, by decide, fun _ => rfl, (fun e => nomatch e)⟩ | exact ⟨3, 1, false, rfl, rfl, rfl, by decide, by decide, fun _ => rfl, (fun e => nomatch e)⟩ | exact ⟨4, 1, false, rfl, rfl, rfl, by decide, by decide, fun _ => rfl, (fun e => nomatch e)⟩ | exact ⟨7, 1, false, rfl, rfl, rfl, by decide, by decide, fun _ => rfl, (fun e => nomatch e)⟩
  | non => exact ⟨2, 0, false, rfl, rfl, rfl, by decide, by decide, fun _ => rfl, (fun e => nomatch e)⟩
  | row r => exact ⟨1, 0, true, rfl, rfl, rfl, by decide, by decide, (fun e => nomatch e), fun _ => ⟨r.length, rfl, by simp only [List.length_cons]; omega⟩⟩
  | oneRow p x r h =>
    have e : (((p :: x :: (r.length : Int) :: r).length : Nat) : Int) = 1 + 1 + (1 + (r.length : Int)) := by
      simp only [List.length_cons]
      omega
    rcases h with rfl | rfl | rfl
    · exact ⟨5, 1, true, rfl, rfl, rfl, by decide, by decide, (fun e => nomatch e), fun _ => ⟨r.length, rfl, e⟩⟩
    · exact ⟨6, 1, true, rfl, rfl, rfl, by decide, by decide, (fun e => nomatch e), fun _ => ⟨r.length, rfl, e⟩⟩
    · exact ⟨8, 1, true, rfl, rfl, rfl, by decide, by decide, (fun e => nomatch e), fun _ => ⟨r.length, rfl, e⟩⟩
/-- the end of a call that is spelled -/
theorem ec2 {H : Hp} {Q : VK} {E : XK} {a : Addr} {ns u t : List Int} {c : List (List Int)} {i : Nat} (hs : SqL K H a (ns.map V.int)) (hl : ns.length ≤ 1000) (e : ns.drop i = u ++ t) (R : LA.Raw c u) (q : Q (.int ((i + u.length : Nat) : Int)) H) : spEc K [.ref a, .int i] H Q E := by
  obtain ⟨p, k, b, h0, h1, h2, k0, k1, hf, ht⟩ := raw_end R
  have at_ : ∀ {j : Nat} {z : Int}, u[j]? = some z → ns[i + j]? = some z := fun {j z} h => by
    have : (ns.drop i)[j]? = some z := by
      rw [e, List.getElem?_append_left (List.getElem?_eq_some_iff.mp h).1]
      exact h
    rw [List.getElem?_drop] at this
    exact this
  have lu : u.length ≤ 1000 := by
    have := congrArg List.length e
    rw [List.length_drop, List.length_append] at this
    omega
  refine ⟨a, ns, i, p, k, b, rfl, hs, hl, at_ (j := 0) h0, h1, h2, fun hb => ?_, fun hb => ?_⟩
  · have := hf hb
    rw [show (i : Int) + 1 + k = ((i + u.length : Nat) : Int) by omega]
    exact q
  · obtain ⟨m, hm, l⟩ := ht hb
    refine ⟨m, ?_, by omega, by omega, ?_⟩
    · rw [show ((i : Int) + 1 + k).toNat = i + (1 + k).toNat by omega]
      exact at_ hm
    · rw [show (i : Int) + 1 + k + (1 + (m : Int)) = ((i + u.length : Nat) : Int) by omega]
      exact q
/-- answer_of: what a spelled call is answered -/
def spAo (C : Addr) : Sp := fun vs H Q _ => ∃ (z0 a l : Addr) (s : Wp04.State) (c : List (List Int)) (u : List Int) (x : Wp04.Call), vs = [.ref a, .ref l] ∧ LineAt C z0 H a s ∧ H l = some (.lst (u.map V.int)) ∧ LA.Raw c u ∧ LA.docCall u = some x ∧ s.gens.length < 30 ∧ u.length ≤ 1000 ∧
  (∀ z ∈ u, -4294967295 ≤ z ∧ z ≤ 4294967295) ∧ Ans C z0 x a s H Q
abbrev sAn : Stmt := top 62
def NAn : List Str := ["calls", "line", "answered", "place", "end", "answer"]
theorem scAn : FnScope NAn ["calls"] (defScope sAn) := ⟨rfl, rfl, rfl, by decide +kernel, rfl, by decide +kernel, by decide +kernel⟩
/-- answers -/
def spAns (K : PySem.W.Frag) : Sp := fun vs H Q _ => ∃ (a : Addr) (ns : List Int), vs = [.ref a] ∧ SqL K H a (ns.map V.int) ∧ PyWp04.answers_asked ns = true ∧ (∀ z ∈ ns, -4294967295 ≤ z ∧ z ≤ 4294967295) ∧ ns.length ≤ 990 ∧
  ∀ (H' : Hp) (p : Addr), H' p = some (.lst ((PyWp04.answers ns).map V.int)) → Q (.ref p) H'
/-- what is asked of the list -/
theorem asked_is {ns : List Int} (h : PyWp04.answers_asked ns = true) : ∃ cs, PyFlat.calls PyWp04.shape ns.length ns = some cs ∧ cs.length ≤ 30 ∧ (PyWp04.answers ns).length ≤ 10000000 ∧ PyWp04.answers ns = PyFlat.told (PyFlat.played Wp04Neutral.step Wp04Neutral.start (cs.map PyWp04.whole)) := by
  unfold PyWp04.answers_asked at h
  cases e : PyFlat.calls PyWp04.shape ns.length ns with
  | none =>
    rw [e] at h
    cases h
  | some cs =>
    rw [e] at h
    simp only [Bool.and_eq_true] at h
    refine ⟨cs, rfl, of_decide_eq_true h.1.1.1.2, of_decide_eq_true h.2, ?_⟩
    unfold PyWp04.answers PyWp04.calls
    rw [e]
theorem ok_ans {f fI : Addr} {fd fdI : FuncData} {kA : Nat} (hkA : 3 ≤ kA) (F : Fun K "answers" "answers" sAn f fd) (B : Bi mg) (T : LTxt K C) (gC : mg "Line" = some (.ref C)) (M : Mk K C fI) (GI : FnOk P w K mg base CX0 2 fI fdI ["self"] (spIn C)) (bI : Binds K fdI ["self"] [])
    (cE : Cal P w K mg base "end_of_call" 1 ["calls", "place"] (spEc K)) (cA : Cal P w K mg base "answer_of" kA ["line", "call"] (spAo C)) : FnOk P w K mg base CX0 (kA + 1) f fd ["calls"] (spAns K) := by
  refine F.ok scAn (fun vs H Q E h => ?_) (fun cdv A outer s H vs Q E hr h => ?_)
  · obtain ⟨a, ns, rfl, _⟩ := h
    rfl
  · have nd : NAn.Nodup := scAn.nd
    have hr1 : Room 1 _ := hr.mono (by omega)
    have hr3 : Room 3 _ := hr.mono hkA
    obtain ⟨a, ns, rfl, hS, hask, hbd, hlen, k⟩ := h
    obtain ⟨cs0, hcs, c30, hsh, hans⟩ := asked_is hask
    refine ⟨_, pss_cons (ps_set (i := 1) nd rfl (Or.inl rfl) (pe_make0 M GI hr3 rfl gC bI .nil pass0))
      (pss_cons (ps_set (i := 2) nd rfl (Or.inl rfl) (pe_lst pa_nil))
      (pss_cons (ps_set (i := 3) nd rfl (Or.inl rfl) pe_int)
      (pss_cons (ps_while PassesOwn.never (pt_cmpR op_lt (pv 3) (pe_callB call_len_seq (by rfl) B.len PySem.boot_len (pa_cons (pv 0) pa_nil)) (nomark _))
        (pss_cons (ps_set (i := 4) nd rfl (Or.inl rfl) (pe_call cE.ok hr1 (by rfl) cE.mgx cE.kp cE.b .nil pass0 (pa_cons (pv 0) (pa_cons (pv 3) pa_nil))))
        (pss_cons (ps_set (i := 5) nd rfl (Or.inl rfl) (pe_call cA.ok hr (by rfl) cA.mgx cA.kp cA.b .nil pass0 (pa_cons (pv 1) (pa_cons (pe_slice sl_list (pv 0) (po_some (pv 3)) (po_some (pv 4))) pa_nil))))
        (pss_cons (ps_expr (pe_bm PySem.F.plainAttrs_list PySem.F.slot_list_append PySem.F.type_list_append mt_append (pv 2) (pa_cons (pe_callB call_len_seq (by rfl) B.len PySem.boot_len (pa_cons (pv 5) pa_nil)) pa_nil)))
        (pss_cons (ps_expr (pe_bm PySem.F.plainAttrs_list PySem.F.slot_list_extend PySem.F.type_list_extend mt_extend (pv 2) (pa_cons (pv 5) pa_nil)))
        (pss_one (ps_set (i := 3) nd rfl (Or.inl rfl) (pv 4))))))))
      (pss_one (ps_ret (pv 2)))))), ?_⟩
    intro x dx nx ndx nex
    refine ⟨x, dx, rfl, upd_same, fun H1 L1 f1 => ?_⟩
    have s1 : Same H H1 := Same.made nx ndx f1
    refine ⟨rfl, (by show 0 ≤ sizeLine; decide), fun an han => ?_⟩
    have s2 := same_upd (o := HO.lst []) han
    obtain ⟨d1, tl1, tb1, q1, y1, y2, y3, y4⟩ := L1
    have xan : an ≠ x := (ne_of_none y1 han).symm
    have L2' : LineAt C an (upd H1 an (.lst [])) x Wp04.init := LineAt.new (n := 2) (.inl rfl) (s2 _ _ y1) (s2 _ _ y2) (s2 _ _ y3) (s2 _ _ y4) (ne_of_none y2 han) (ne_of_none y3 han) xan ⟨_, upd_same⟩
    have hanH : H an = none := s1.free han
    refine ⟨fun m σ H' => ∃ (i fu : Nat) (cs : List (List (List Int))) (st : Wp04.State) (done : List Int) (ve va : Option V), m = ns.length - i ∧ σ = [some (.ref a), some (.ref x), some (.ref an), some (.int i), ve, va] ∧ Same H H' ∧ LineAt C an H' x st ∧
      H' an = some (.lst (done.map V.int)) ∧ PyFlat.calls PyWp04.shape fu (ns.drop i) = some cs ∧ st.gens.length + cs.length ≤ 30 ∧ done ++ PyFlat.told (PyFlat.played Wp04Neutral.step st (cs.map PyWp04.whole)) = PyWp04.answers ns,
      ⟨ns.length, 0, ns.length, cs0, Wp04.init, [], none, none, rfl, rfl, s1.trans s2, L2', upd_same, hcs, by show 0 + _ ≤ 30; omega, by rw [hans]; rfl⟩, ?_⟩
    rintro m σ H' ⟨i, fu, cs, st, done, ve, va, rfl, rfl, s3, L3, h3, hc, g30, hd⟩
    have hS3 := s3.seq hS
    refine ⟨_, rfl, _, rfl, a, _, rfl, .inl hS3, _, _, rfl, rfl, _, rfl, ?_⟩
    rw [List.length_map]
    by_cases c : i < ns.length
    · refine ifT (decide_eq_true (by exact_mod_cast c)) ?_
      have hne : ns.drop i ≠ [] := by
        intro e
        have := congrArg List.length e
        rw [List.length_drop] at this
        simp at this
        omega
      obtain ⟨fu', c1, cs', u, t, rfl, eu, R, hc'⟩ := LA.calls_cons hc hne
      obtain ⟨call, ecall, estep⟩ := LA.raw_step R
      have lu : i + u.length ≤ ns.length := by
        have := congrArg List.length eu
        rw [List.length_drop, List.length_append] at this
        omega
      have u1 : 1 ≤ u.length := by cases R <;> simp
      refine ⟨fun σ' H2 => ∃ (fu : Nat) (cs : List (List (List Int))) (st : Wp04.State) (done : List Int) (va : Option V), σ' = [some (.ref a), some (.ref x), some (.ref an), some (.int ((i + u.length : Nat) : Int)), some (.int ((i + u.length : Nat) : Int)), va] ∧ Same H H2 ∧ LineAt C an H2 x st ∧
        H2 an = some (.lst (done.map V.int)) ∧ PyFlat.calls PyWp04.shape fu (ns.drop (i + u.length)) = some cs ∧ st.gens.length + cs.length ≤ 30 ∧ done ++ PyFlat.told (PyFlat.played Wp04Neutral.step st (cs.map PyWp04.whole)) = PyWp04.answers ns, ?_, ?_⟩
      · rintro σ' H2 ⟨fu2, cs2, st2, done2, va2, rfl, q1, q2, q3, q4, q5, q6⟩
        exact ⟨ns.length - (i + u.length), by omega, i + u.length, fu2, cs2, st2, done2, _, va2, rfl, rfl, q1, q2, q3, q4, q5, q6⟩
      · refine ⟨_, rfl, _, rfl, ?_⟩
        simp only [tNil, List.append_nil]
        refine ec2 hS3 (by omega) eu R ?_
        refine ⟨_, rfl, _, rfl, _, rfl, _, rfl, _, rfl, _, rfl, a, _, rfl, hS3, fun l hl => ?_⟩
        have ecut : cutV (ns.map V.int) (some (i : Int)) (some ((i + u.length : Nat) : Int)) = u.map V.int := by
          unfold cutV
          rw [HT.sIx_nat, HT.sIx_nat, List.length_map, Nat.min_eq_left lu, Nat.min_eq_left (by omega : i ≤ ns.length), ← List.map_drop, eu, ← List.map_take, Nat.add_sub_cancel_left, List.take_left]
        rw [ecut]
        have s4 := same_upd (o := HO.lst (u.map V.int)) hl
        have L4 := L3.same s4
        have ub : ∀ z ∈ u, -4294967295 ≤ z ∧ z ≤ 4294967295 := fun z hz => hbd z (List.mem_of_mem_drop (by rw [eu]; exact List.mem_append_left _ hz))
        have gl : st.gens.length < 30 := by
          rw [List.length_cons] at g30
          omega
        have es : PyFlat.told (PyFlat.played Wp04Neutral.step st ((c1 :: cs').map PyWp04.whole)) = (((Wp04.step st call).2.length : Int) :: (Wp04.step st call).2) ++ PyFlat.told (PyFlat.played Wp04Neutral.step (Wp04.step st call).1 (cs'.map PyWp04.whole)) := by
          rw [List.map_cons]
          show PyFlat.told ((Wp04Neutral.step st (PyWp04.whole c1)).2 :: PyFlat.played Wp04Neutral.step (Wp04Neutral.step st (PyWp04.whole c1)).1 (cs'.map PyWp04.whole)) = _
          rw [estep]
          rfl
        rw [es] at hd
        have hlong : done.length + (1 + (Wp04.step st call).2.length) ≤ 10000000 := by
          have := hsh
          rw [← hd, List.length_append, List.length_append, List.length_cons] at this
          omega
        simp only [tNil, List.append_nil]
        refine ⟨an, x, l, st, c1, u, call, rfl, L4, upd_same, R, ecall, gl, by omega, ub, fun H5 p L5 f5 np h5 => ?_⟩
        have h5an : H5 an = some (.lst (done.map V.int)) := f5 _ _ (s4 _ _ h3) xan
        have anp : an ≠ p := ne_of_none (s4 _ _ h3) np
        refine ⟨_, rfl, .inl ⟨rfl, _, SqL.of h5an⟩, _, rfl, p, _, rfl, .inl (SqL.of h5), an, _, _, rfl, rfl, h5an, ?_, ?_⟩
        · rw [List.length_map, sizeLine_eq]
          omega
        refine ⟨_, rfl, .inl ⟨rfl, _, SqL.of upd_same⟩, _, rfl, an, p, _, _, rfl, rfl, upd_same, (by rw [upd_ne anp.symm]; exact h5), ?_, ?_⟩
        · rw [List.length_append, List.length_map, List.length_map, List.length_singleton, sizeLine_eq]
          omega
        refine ⟨_, rfl, fu', cs', (Wp04.step st call).1, done ++ (((Wp04.step st call).2.length : Int) :: (Wp04.step st call).2), some (.ref p), rfl, ?_, ?_, ?_, ?_, ?_, ?_⟩
        · intro b o hb
          have bx : b ≠ x := by
            rintro rfl
            rw [nx] at hb
            cases hb
          have ban : b ≠ an := by
            rintro rfl
            rw [hanH] at hb
            cases hb
          rw [upd_ne ban, upd_ne ban]
          exact f5 _ _ (s4 _ _ (s3 _ _ hb)) bx
        · exact (L5.put h5an).put upd_same
        · rw [upd_same]
          simp
        · rw [← List.drop_drop, eu, List.drop_left]
          exact hc'
        · have := LA.step_gens st call
          rw [List.length_cons] at g30
          omega
        · rw [← hd, List.append_assoc]
    · refine ifF (decide_eq_false (by intro h; exact c (by exact_mod_cast h))) ?_
      have e0 : ns.drop i = [] := List.drop_eq_nil_of_le (by omega)
      rw [e0] at hc
      have ecs : cs = [] := by
        cases fu <;> exact (Option.some.inj hc).symm
      subst ecs
      have ed : done = PyWp04.answers ns := by
        rw [← hd]
        exact (List.append_nil _).symm
      exact ⟨_, rfl, k _ an (by rw [h3, ed])⟩
end LF
end
section
set_option maxRecDepth 100000
set_option maxHeartbeats 4000000
namespace LF
open PySem PySem.Spec PyProof.Rows L2
variable {P : Program} {w : World} {K : PySem.W.Frag} {mg : Str → Option Value} {base : Heap} {C : Addr}
/-! ### is_polynomial -/
abbrev sIp : Stmt := top 59
def NIp : List Str := ["n", "d", "numbers", "number"]
theorem scIp : FnScope NIp ["n", "d", "numbers"] (defScope sIp) := ⟨rfl, rfl, rfl, by decide +kernel, rfl, by decide +kernel, by decide +kernel⟩
/-- is_polynomial -/
def spIp : Sp := fun vs H Q _ => ∃ (n d : Nat) (a : Addr) (ns : List Int), vs = [.int n, .int d, .ref a] ∧ (n = 2 ∨ n = 3) ∧ d ≤ 8 ∧ H a = some (.lst (ns.map V.int)) ∧ ns.length ≤ 1000 ∧ ∀ H' : Hp, Same H H' → Q (.bl (LA.polyOk n d ns)) H'
theorem ok_ip {f : Addr} {fd : FuncData} (F : Fun K "is_polynomial" "is_polynomial" sIp f fd) (B : Bi mg) {tk : Tok} (hG : mg "GREATEST_IN_POLYNOMIAL" = some (.int 1000 tk)) (cM : Cal P w K mg base "monomials" 1 ["n", "d"] spMo) :
    FnOk P w K mg base CX0 2 f fd ["n", "d", "numbers"] spIp := by
  refine F.ok scIp (fun vs H Q E h => ?_) (fun cdv A outer s H vs Q E hr h => ?_)
  · obtain ⟨n, d, a, ns, rfl, _⟩ := h
    rfl
  · have nd : NIp.Nodup := scIp.nd
    obtain ⟨n, d, a, ns, rfl, hn, hd, ha, hl, k⟩ := h
    refine ⟨_, pss_one (ps_ret (pe_and (pe_cmpR op_eq (pe_callB call_len_seq (by rfl) B.len PySem.boot_len (pa_cons (pv 2) pa_nil)) (pe_callB call_len_seq (by rfl) B.len PySem.boot_len (pa_cons (pe_call cM.ok hr (by rfl) cM.mgx cM.kp cM.b .nil pass0 (pa_cons (pv 0) (pa_cons (pv 1) pa_nil))) pa_nil)) (nomark _))
      (pe_one (pe_callB (cr_all rfl) (by rfl) B.all (by decide +kernel) (pa_cons
        (pe_lc (own := [("number", 3)]) (g := gName 3) (tt := tYes) rfl nd (pi_list (pv 2))
          (blkOk_by (N := NIp) (sc := defScope sIp) (by decide +kernel)) (fun _ _ _ _ _ => pg_name (i := 3) nd rfl (Or.inl rfl)) (fun _ _ _ _ _ => pts_nil)
          (fun _ _ _ _ _ => pe_cmpR op_le (pe_callB call_abs (by rfl) B.abs (by decide +kernel) (pa_cons (pv 3) pa_nil)) (pe_glob (v := .int 1000) rfl hG ⟨_, rfl⟩) (nomark _))) pa_nil))))), ?_⟩
    refine ⟨_, rfl, a, _, rfl, .inl (SqL.of ha), ?_⟩
    refine ⟨_, rfl, _, rfl, n, d, rfl, hn, hd, fun H1 p Lo s1 hp e1 t1 q1 => ?_⟩
    refine ⟨p, _, rfl, .inl (SqL.of e1), ?_⟩
    refine ⟨rfl, _, rfl, ?_⟩
    have lo : Lo.length = (Wp04.monos n d).length := by
      have := congrArg List.length q1
      simpa using this
    have ec : decide (V.int (((ns.map V.int).length : Nat) : Int) = V.int (((refs Lo).length : Nat) : Int)) = decide (ns.length = (Wp04.monos n d).length) := by
      rw [List.length_map, len_refs, lo]
      exact decide_eq_decide.mpr ⟨fun e => by have := V.int.inj e; exact_mod_cast this, fun e => by rw [e]⟩
    by_cases c : ns.length = (Wp04.monos n d).length
    · refine ifT (ec.trans (decide_eq_true c)) ?_
      refine ⟨_, rfl, a, rfl, ⟨_, SqL.of (s1 _ _ ha)⟩, fun D hD => ?_⟩
      refine lc_list (K := K) (a := a) (xs := ns.map V.int) (fun i H2 => Same H1 H2 ∧ H2 D = some (.lst (((ns.take i).map fun z => decide ((if z < 0 then -z else z) ≤ 1000)).map V.bl))) ⟨same_upd hD, by rw [upd_same]; simp⟩
        (fun i H2 _ ⟨s2, _⟩ => SqL.of (s2 _ _ (s1 _ _ ha))) ?_ ?_
      · rintro i x H2 hx ⟨s2, h2⟩
        obtain ⟨z, hz, rfl⟩ := row_at hx
        refine ⟨rfl, ?_⟩
        refine ⟨_, rfl, z, rfl, _, _, rfl, rfl, _, h2, small1000 (by simp; have := (List.getElem?_eq_some_iff.mp hz).1; omega), fun b o hb => ?_, ?_⟩
        · rw [upd_ne (ne_of_none hb hD)]
          exact s2 _ _ hb
        · rw [upd_same, List.take_add_one, hz]
          simp
      · rintro H2 ⟨s2, h2⟩
        rw [List.length_map, List.take_length] at h2
        refine ⟨D, _, rfl, SqL.of h2, ?_⟩
        have := k H2 (s1.trans s2)
        unfold LA.polyOk at this
        rw [decide_eq_true c, Bool.true_and] at this
        rw [List.all_map]
        have ea : (ns.all (id ∘ fun z => decide ((if z < 0 then -z else z) ≤ 1000))) = ns.all fun z => decide (z.natAbs ≤ 1000) := by
          congr 1
          funext z
          exact decide_eq_decide.mpr (by split <;> omega)
        rw [ea]
        exact this
    · refine ifF (ec.trans (decide_eq_false c)) ?_
      have := k H1 s1
      unfold LA.polyOk at this
      rw [decide_eq_false c, Bool.false_and] at this
      exact this
/-! ### allows_polynomial -/
abbrev sAp : Stmt := inClass (top 57) 11
def NAp : List Str := ["self", "d", "polynomial"]
theorem scAp : FnScope NAp ["self", "d", "polynomial"] (defScope sAp) := ⟨rfl, rfl, rfl, by decide +kernel, rfl, by decide +kernel, by decide +kernel⟩
def spAp (C : Addr) : Sp := fun vs H Q _ => ∃ (z0 a l : Addr) (s : Wp04.State) (z : Int) (r : List Int), vs = [.ref a, .int z, .ref l] ∧ LineAt C z0 H a s ∧ H l = some (.lst (r.map V.int)) ∧ r.length ≤ 1000 ∧ ∀ H' : Hp, Same H H' → Q (.bl (LA.allows s.n z r)) H'
theorem ok_ap {f : Addr} {fd : FuncData} (F : Fun K "allows_polynomial" "Line.allows_polynomial" sAp f fd) (T : LTxt K C) (mA : MCal P w K mg base C "allows_degree" 1 ["self", "d"] (spAd C)) (cI : Cal P w K mg base "is_polynomial" 2 ["n", "d", "numbers"] spIp) :
    FnOk P w K mg base CX0 3 f fd ["self", "d", "polynomial"] (spAp C) := by
  refine F.ok scAp (fun vs H Q E h => ?_) (fun cdv A outer s H vs Q E hr h => ?_)
  · obtain ⟨z0, a, l, s, z, r, rfl, _⟩ := h
    rfl
  · have nd : NAp.Nodup := scAp.nd
    have hr1 : Room 1 _ := hr.mono (by decide)
    obtain ⟨z0, a, l, st, z, r, rfl, L, hl, rl, k⟩ := h
    refine ⟨_, pss_one (ps_ret (pe_and (pe_meth (pv 0) T.cl mA.me mA.ok hr1 mA.b .nil pass0 (pa_cons (pv 1) pa_nil))
      (pe_one (pe_call cI.ok hr (by rfl) cI.mgx cI.kp cI.b .nil pass0 (pa_cons (pe_fld (pv 0) rfl) (pa_cons (pv 1) (pa_cons (pv 2) pa_nil))))))), ?_⟩
    have L0 := L
    obtain ⟨dx, tl, tb, TT, G, hp, htl, hTT, eT, htb, hG, eG, S, _⟩ := L
    refine ⟨_, rfl, a, dx, _, rfl, hp, lF_none (by decide +kernel), _, rfl, z0, a, st, z, rfl, L0, _, rfl, ?_⟩
    by_cases c : 0 ≤ z ∧ z ≤ LA.most st.n
    · refine ifT (decide_eq_true c) ?_
      obtain ⟨d, rfl⟩ : ∃ d : Nat, z = (d : Int) := ⟨z.toNat, by omega⟩
      have hd : d ≤ LA.most st.n := by omega
      have d8 : d ≤ 8 := Nat.le_trans (LA.most_bnd hd) LA.bnd8
      refine ⟨_, rfl, a, C, dx, _, _, rfl, hp, T.cl, T.nU, lF_u _ _ _, _, rfl, _, rfl, st.n, d, l, r, rfl, S.ok.hn, d8, hl, rl, fun H1 s1 => ?_⟩
      have := k H1 s1
      unfold LA.allows at this
      rw [decide_eq_true c, Bool.true_and, Int.toNat_natCast] at this
      exact this
    · refine ifF (decide_eq_false c) ?_
      have := k H (fun _ _ h => h)
      unfold LA.allows at this
      rw [decide_eq_false c, Bool.false_and] at this
      exact this
/-! ### mean -/
abbrev sMe : Stmt := inClass (top 57) 6
def NMe : List Str := ["self", "d", "polynomial"]
theorem scMe : FnScope NMe ["self", "d", "polynomial"] (defScope sMe) := ⟨rfl, rfl, rfl, by decide +kernel, rfl, by decide +kernel, by decide +kernel⟩
/-- what a method of a polynomial is asked -/
def spPoly (C : Addr) (call : Int → List Int → Wp04.Call) : Sp := fun vs H Q _ => ∃ (z0 a l : Addr) (s : Wp04.State) (z : Int) (r : List Int), vs = [.ref a, .int z, .ref l] ∧ LineAt C z0 H a s ∧ H l = some (.lst (r.map V.int)) ∧ r.length ≤ 1000 ∧ Ans C z0 (call z r) a s H Q
theorem ok_me {f : Addr} {fd : FuncData} (F : Fun K "mean" "Line.mean" sMe f fd) (B : Bi mg) (T : LTxt K C) {tk : Tok} (hN : mg "NOT_ALLOWED" = some (.int (-1) tk)) (mA : MCal P w K mg base C "allows_polynomial" 3 ["self", "d", "polynomial"] (spAp C)) (cT : Cal P w K mg base "told_row" 41 ["row", "below"] spTr)
    (cS : Cal P w K mg base "sum_of_moved" 5 ["n", "group", "d", "polynomial"] spSo) : FnOk P w K mg base CX0 42 f fd ["self", "d", "polynomial"] (spPoly C .mean) := by
  refine F.ok scMe (fun vs H Q E h => ?_) (fun cdv A outer s H vs Q E hr h => ?_)
  · obtain ⟨z0, a, l, s, z, r, rfl, _⟩ := h
    rfl
  · have nd : NMe.Nodup := scMe.nd
    have hr3 : Room 3 _ := hr.mono (by decide)
    have hr5 : Room 5 _ := hr.mono (by decide)
    obtain ⟨z0, a, l, st, z, r, rfl, L, hl, rl, k⟩ := h
    refine ⟨_, pss_cons (ps_if (pt_not (pt_val (pe_meth (pv 0) T.cl mA.me mA.ok hr3 mA.b .nil pass0 (pa_cons (pv 1) (pa_cons (pv 2) pa_nil))))) (pss_one (ps_ret (pe_lst (pa_cons (pe_glob (v := .int (-1)) rfl hN ⟨_, rfl⟩) pa_nil)))) pss_nil)
      (pss_one (ps_ret (pe_call cT.ok hr (by rfl) cT.mgx cT.kp cT.b .nil pass0 (pa_cons (pe_call cS.ok hr5 (by rfl) cS.mgx cS.kp cS.b .nil pass0 (pa_cons (pe_fld (pv 0) rfl) (pa_cons (pe_fld (pv 0) rfl) (pa_cons (pv 1) (pa_cons (pv 2) pa_nil)))))
        (pa_cons (pe_callB call_len_seq (by rfl) B.len PySem.boot_len (pa_cons (pe_fld (pv 0) rfl) pa_nil)) pa_nil))))), ?_⟩
    have L0 := L
    obtain ⟨dx, tl, tb, TT, G, hp, htl, hTT, eT, htb, hG, eG, S, _⟩ := L
    refine ⟨_, rfl, a, dx, _, rfl, hp, lF_none (by decide +kernel), _, rfl, _, rfl, z0, a, l, st, z, r, rfl, L0, hl, rl, fun H1 s1 => ⟨_, rfl, ?_⟩⟩
    cases c : LA.allows st.n z r with
    | false =>
      refine ifT rfl ?_
      refine ⟨(by show 1 ≤ sizeLine; decide), fun p hp' => ?_⟩
      exact ans_one k L0 (LA.step_meanN c) s1 hp'
    | true =>
      refine ifF rfl ?_
      obtain ⟨d, rfl, hd, ok⟩ := LA.allows_iff c
      obtain ⟨o1, o2⟩ := LA.polyOk_iff ok
      have d8 : d ≤ 8 := Nat.le_trans (LA.most_bnd hd) LA.bnd8
      have gr := gr_of S htb hG eG
      have gr1 := gr.same s1
      have lenG : (G.length : Int) = ((Wp04.group st.n st.gens).length : Int) := by rw [← eG, List.length_map]
      refine ⟨_, rfl, a, C, dx, _, _, rfl, s1 _ _ hp, T.cl, T.nU, lF_u _ _ _, _, rfl, a, C, dx, _, _, rfl, s1 _ _ hp, T.cl, T.nG, lF_g _ _ _, _, rfl, _, rfl, st.n, tb, G, d, l, r, rfl, gr1, d8, s1 _ _ hl, o1, o2, fun H2 p2 s2 n2 e2 => ?_⟩
      have s12 : Same H H2 := s1.trans s2
      refine ⟨_, rfl, a, C, dx, _, _, rfl, s12 _ _ hp, T.cl, T.nG, lF_g _ _ _, tb, _, rfl, .inl (SqL.of (s12 _ _ htb)), ?_⟩
      rw [len_refs]
      have := gr.one
      have lc : (LA.comb st.n d (G.map (·.2)) r).length = r.length := by rw [o1]; simp [LA.comb]
      refine ⟨p2, _, (G.length : Int), rfl, e2, by omega, by rw [lc]; exact rl, fun H3 p3 s3 n3 e3 => ?_⟩
      refine ans_same k L0 (LA.step_mean S hd ok) (s12.trans s3) (s12.free n3) ?_
      rw [e3, eG, lenG]
/-! ### stays -/
abbrev sSy : Stmt := inClass (top 57) 7
theorem scSy : FnScope NMe ["self", "d", "polynomial"] (defScope sSy) := ⟨rfl, rfl, rfl, by decide +kernel, rfl, by decide +kernel, by decide +kernel⟩
theorem ok_sy {f : Addr} {fd : FuncData} (F : Fun K "stays" "Line.stays" sSy f fd) (B : Bi mg) (T : LTxt K C) {tk : Tok} (hN : mg "NOT_ALLOWED" = some (.int (-1) tk)) (mA : MCal P w K mg base C "allows_polynomial" 3 ["self", "d", "polynomial"] (spAp C))
    (cL : Cal P w K mg base "is_left_alone" 6 ["n", "group", "d", "polynomial"] spIl) : FnOk P w K mg base CX0 7 f fd ["self", "d", "polynomial"] (spPoly C .stays) := by
  refine F.ok scSy (fun vs H Q E h => ?_) (fun cdv A outer s H vs Q E hr h => ?_)
  · obtain ⟨z0, a, l, s, z, r, rfl, _⟩ := h
    rfl
  · have nd : NMe.Nodup := scSy.nd
    have hr3 : Room 3 _ := hr.mono (by decide)
    obtain ⟨z0, a, l, st, z, r, rfl, L, hl, rl, k⟩ := h
    refine ⟨_, pss_cons (ps_if (pt_not (pt_val (pe_meth (pv 0) T.cl mA.me mA.ok hr3 mA.b .nil pass0 (pa_cons (pv 1) (pa_cons (pv 2) pa_nil))))) (pss_one (ps_ret (pe_lst (pa_cons (pe_glob (v := .int (-1)) rfl hN ⟨_, rfl⟩) pa_nil)))) pss_nil)
      (pss_one (ps_ret (pe_lst (pa_cons (pe_callTy call_int1 (by rfl) B.int (by decide +kernel) (pa_cons (pe_call cL.ok hr (by rfl) cL.mgx cL.kp cL.b .nil pass0 (pa_cons (pe_fld (pv 0) rfl) (pa_cons (pe_fld (pv 0) rfl) (pa_cons (pv 1) (pa_cons (pv 2) pa_nil))))) pa_nil)) pa_nil)))), ?_⟩
    have L0 := L
    obtain ⟨dx, tl, tb, TT, G, hp, htl, hTT, eT, htb, hG, eG, S, _⟩ := L
    refine ⟨_, rfl, a, dx, _, rfl, hp, lF_none (by decide +kernel), _, rfl, _, rfl, z0, a, l, st, z, r, rfl, L0, hl, rl, fun H1 s1 => ⟨_, rfl, ?_⟩⟩
    cases c : LA.allows st.n z r with
    | false =>
      refine ifT rfl ?_
      refine ⟨(by show 1 ≤ sizeLine; decide), fun p hp' => ?_⟩
      exact ans_one k L0 (LA.step_staysN c) s1 hp'
    | true =>
      refine ifF rfl ?_
      obtain ⟨d, rfl, hd, ok⟩ := LA.allows_iff c
      obtain ⟨o1, o2⟩ := LA.polyOk_iff ok
      have d8 : d ≤ 8 := Nat.le_trans (LA.most_bnd hd) LA.bnd8
      have gr1 := (gr_of S htb hG eG).same s1
      refine ⟨_, rfl, a, C, dx, _, _, rfl, s1 _ _ hp, T.cl, T.nU, lF_u _ _ _, _, rfl, a, C, dx, _, _, rfl, s1 _ _ hp, T.cl, T.nG, lF_g _ _ _, _, rfl, _, rfl, st.n, tb, G, d, l, r, rfl, gr1, d8, s1 _ _ hl, o1, o2, fun H2 s2 => ?_⟩
      refine .inr ⟨_, rfl, (by show 1 ≤ sizeLine; decide), fun p hp' => ?_⟩
      have es := LA.step_stays S hd ok
      rw [← eG] at es
      exact ans_one k L0 es (s1.trans s2) hp'
/-! ### fresh -/
abbrev sFh : Stmt := inClass (top 57) 8
theorem scFh : FnScope NCo ["self", "d"] (defScope sFh) := ⟨rfl, rfl, rfl, by decide +kernel, rfl, by decide +kernel, by decide +kernel⟩
def spFh (C : Addr) : Sp := fun vs H Q _ => ∃ (z0 a : Addr) (s : Wp04.State) (z : Int), vs = [.ref a, .int z] ∧ LineAt C z0 H a s ∧ Ans C z0 (.fresh z) a s H Q
theorem ok_fh {f : Addr} {fd : FuncData} (F : Fun K "fresh" "Line.fresh" sFh f fd) (T : LTxt K C) {tk : Tok} (hN : mg "NOT_ALLOWED" = some (.int (-1) tk)) (mA : MCal P w K mg base C "allows_degree" 1 ["self", "d"] (spAd C)) (cC : Cal P w K mg base "counts_of_new" 45 ["n", "group", "d"] spCn) :
    FnOk P w K mg base CX0 46 f fd ["self", "d"] (spFh C) := by
  refine F.ok scFh (fun vs H Q E h => ?_) (fun cdv A outer s H vs Q E hr h => ?_)
  · obtain ⟨z0, a, s, z, rfl, _⟩ := h
    rfl
  · have nd : NCo.Nodup := scFh.nd
    have hr1 : Room 1 _ := hr.mono (by decide)
    obtain ⟨z0, a, st, z, rfl, L, k⟩ := h
    refine ⟨_, pss_cons (ps_if (pt_not (pt_val (pe_meth (pv 0) T.cl mA.me mA.ok hr1 mA.b .nil pass0 (pa_cons (pv 1) pa_nil)))) (pss_one (ps_ret (pe_lst (pa_cons (pe_glob (v := .int (-1)) rfl hN ⟨_, rfl⟩) pa_nil)))) pss_nil)
      (pss_one (ps_ret (pe_call cC.ok hr (by rfl) cC.mgx cC.kp cC.b .nil pass0 (pa_cons (pe_fld (pv 0) rfl) (pa_cons (pe_fld (pv 0) rfl) (pa_cons (pv 1) pa_nil)))))), ?_⟩
    have L0 := L
    obtain ⟨dx, tl, tb, TT, G, hp, htl, hTT, eT, htb, hG, eG, S, _⟩ := L
    refine ⟨_, rfl, a, dx, _, rfl, hp, lF_none (by decide +kernel), _, rfl, z0, a, st, z, rfl, L0, _, rfl, ?_⟩
    by_cases c : 0 ≤ z ∧ z ≤ LA.most st.n
    · refine ifF (by show (!decide _) = false; rw [decide_eq_true c]; rfl) ?_
      obtain ⟨d, rfl⟩ : ∃ d : Nat, z = (d : Int) := ⟨z.toNat, by omega⟩
      have hd : d ≤ LA.most st.n := by omega
      have lenG : G.length = (Wp04.group st.n st.gens).length := by rw [← eG, List.length_map]
      have inG : ∀ p ∈ G, p.2 ∈ Wp04.group st.n st.gens := fun p hp' => by
        rw [← eG]
        exact List.mem_map_of_mem hp'
      have few := S.few
      refine ⟨_, rfl, a, C, dx, _, _, rfl, hp, T.cl, T.nU, lF_u _ _ _, _, rfl, a, C, dx, _, _, rfl, hp, T.cl, T.nG, lF_g _ _ _, _, rfl, st.n, tb, G, d, (fun e => ((Wp04.stay st.n e (Wp04.group st.n st.gens)).length : Int)), rfl, gr_of S htb hG eG, hd, ?_, ?_, fun H' p s1 np h1 => ?_⟩
      · exact fun p hp' j z hz => Nat.lt_of_lt_of_le (GC.group_short S.gi few (LA.power_mem S.ok few (inG p hp') j) z hz) (Nat.pow_le_pow_right (by decide) (by decide))
      · intro e he
        have := LA.sum_Tt S.ok few (d := e) (LA.most_bnd (by omega))
        rw [lenG, ← this, ← eG, List.map_map]
        rfl
      · refine ans_same k L0 (LA.step_fresh S hd) s1 np ?_
        rw [h1, eG]
        rfl
    · refine ifT (by show (!decide _) = true; rw [decide_eq_false c]; rfl) ?_
      refine ⟨(by show 1 ≤ sizeLine; decide), fun p hp' => ?_⟩
      exact ans_one k L0 (LA.step_freshN c) (fun _ _ h => h) hp'
/-! ### makes -/
abbrev sMk : Stmt := inClass (top 57) 9
theorem scMk : FnScope NMe ["self", "d", "polynomial"] (defScope sMk) := ⟨rfl, rfl, rfl, by decide +kernel, rfl, by decide +kernel, by decide +kernel⟩
theorem ok_mk {f : Addr} {fd : FuncData} (F : Fun K "makes" "Line.makes" sMk f fd) (B : Bi mg) (T : LTxt K C) {tk tk4 : Tok} (hN : mg "NOT_ALLOWED" = some (.int (-1) tk)) (hD : mg "DOES_NOT_STAY" = some (.int (-4) tk4)) (mA : MCal P w K mg base C "allows_polynomial" 3 ["self", "d", "polynomial"] (spAp C))
    (cL : Cal P w K mg base "is_left_alone" 6 ["n", "group", "d", "polynomial"] spIl) (cM : Cal P w K mg base "is_made_of_lower" 45 ["n", "group", "d", "polynomial"] spIo) : FnOk P w K mg base CX0 46 f fd ["self", "d", "polynomial"] (spPoly C .makes) := by
  refine F.ok scMk (fun vs H Q E h => ?_) (fun cdv A outer s H vs Q E hr h => ?_)
  · obtain ⟨z0, a, l, s, z, r, rfl, _⟩ := h
    rfl
  · have nd : NMe.Nodup := scMk.nd
    have hr3 : Room 3 _ := hr.mono (by decide)
    have hr6 : Room 6 _ := hr.mono (by decide)
    obtain ⟨z0, a, l, st, z, r, rfl, L, hl, rl, k⟩ := h
    refine ⟨_, pss_cons (ps_if (pt_not (pt_val (pe_meth (pv 0) T.cl mA.me mA.ok hr3 mA.b .nil pass0 (pa_cons (pv 1) (pa_cons (pv 2) pa_nil))))) (pss_one (ps_ret (pe_lst (pa_cons (pe_glob (v := .int (-1)) rfl hN ⟨_, rfl⟩) pa_nil)))) pss_nil)
      (pss_cons (ps_if (pt_not (pt_val (pe_call cL.ok hr6 (by rfl) cL.mgx cL.kp cL.b .nil pass0 (pa_cons (pe_fld (pv 0) rfl) (pa_cons (pe_fld (pv 0) rfl) (pa_cons (pv 1) (pa_cons (pv 2) pa_nil))))))) (pss_one (ps_ret (pe_lst (pa_cons (pe_glob (v := .int (-4)) rfl hD ⟨_, rfl⟩) pa_nil)))) pss_nil)
      (pss_one (ps_ret (pe_lst (pa_cons (pe_callTy call_int1 (by rfl) B.int (by decide +kernel) (pa_cons (pe_call cM.ok hr (by rfl) cM.mgx cM.kp cM.b .nil pass0 (pa_cons (pe_fld (pv 0) rfl) (pa_cons (pe_fld (pv 0) rfl) (pa_cons (pv 1) (pa_cons (pv 2) pa_nil))))) pa_nil)) pa_nil))))), ?_⟩
    have L0 := L
    obtain ⟨dx, tl, tb, TT, G, hp, htl, hTT, eT, htb, hG, eG, S, _⟩ := L
    refine ⟨_, rfl, a, dx, _, rfl, hp, lF_none (by decide +kernel), _, rfl, _, rfl, z0, a, l, st, z, r, rfl, L0, hl, rl, fun H1 s1 => ⟨_, rfl, ?_⟩⟩
    cases c : LA.allows st.n z r with
    | false =>
      refine ifT rfl ?_
      refine ⟨(by show 1 ≤ sizeLine; decide), fun p hp' => ?_⟩
      exact ans_one k L0 (LA.step_makesN c) s1 hp'
    | true =>
      refine ifF rfl ?_
      obtain ⟨d, rfl, hd, ok⟩ := LA.allows_iff c
      obtain ⟨o1, o2⟩ := LA.polyOk_iff ok
      have d8 : d ≤ 8 := Nat.le_trans (LA.most_bnd hd) LA.bnd8
      have gr := gr_of S htb hG eG
      refine ⟨_, rfl, a, C, dx, _, _, rfl, s1 _ _ hp, T.cl, T.nU, lF_u _ _ _, _, rfl, a, C, dx, _, _, rfl, s1 _ _ hp, T.cl, T.nG, lF_g _ _ _, _, rfl, _, rfl, st.n, tb, G, d, l, r, rfl, gr.same s1, d8, s1 _ _ hl, o1, o2, fun H2 s2 => ⟨_, rfl, ?_⟩⟩
      have s12 : Same H H2 := s1.trans s2
      rw [eG]
      cases u : LA.leftB st.n d (Wp04.group st.n st.gens) r with
      | false =>
        refine ifT rfl ?_
        refine ⟨(by show 1 ≤ sizeLine; decide), fun p hp' => ?_⟩
        exact ans_one k L0 (LA.step_makes4 S hd ok u) s12 hp'
      | true =>
        refine ifF rfl ?_
        refine ⟨_, rfl, a, C, dx, _, _, rfl, s12 _ _ hp, T.cl, T.nU, lF_u _ _ _, _, rfl, a, C, dx, _, _, rfl, s12 _ _ hp, T.cl, T.nG, lF_g _ _ _, _, rfl, _, rfl, st.n, tb, G, d, l, r, rfl, gr.same s12, hd, s12 _ _ hl, o1, o2, fun H3 s3 => ?_⟩
        refine .inr ⟨_, rfl, (by show 1 ≤ sizeLine; decide), fun p hp' => ?_⟩
        have es := LA.step_makes S hd ok u
        have en : ((LA.clearAll (LA.madeZ st.n (Wp04.group st.n st.gens) d) r).any fun z => decide (z ≠ 0)) = (LA.clearAll (LA.madeZ st.n (Wp04.group st.n st.gens) d) r).any fun z => z != 0 := by
          congr 1
          funext z
          by_cases q : z = 0 <;> simp [q]
        rw [en, ← eG] at es
        exact ans_one k L0 es (s12.trans s3) hp'
end LF
end
section
set_option maxRecDepth 100000
set_option maxHeartbeats 4000000
namespace LF
open PySem PySem.Spec PyProof.Rows L2
variable {P : Program} {w : World} {K : PySem.W.Frag} {mg : Str → Option Value} {base : Heap} {C : Addr}
theorem ans_later {H H1 : Hp} {z0 a : Addr} {s : Wp04.State} {c : Wp04.Call} {Q : VK} (A : Ans C z0 c a s H Q) (k : Same H H1) : Ans C z0 c a s H1 Q := fun H' p L f np h => A H' p L ((Fra.of k).trans f) (k.free np) h
theorem cut_at {u : List Int} {j : Nat} (h : j ≤ u.length) : cutV (u.map V.int) (some (j : Int)) none = (u.drop j).map V.int := by
  unfold cutV
  rw [HT.sIx_none, HT.sIx_nat, List.length_map, Nat.min_eq_left h, List.map_drop, List.take_of_length_le (by simp)]
abbrev sAo : Stmt := top 61
def NAo : List Str := ["line", "call"]
theorem scAo : FnScope NAo ["line", "call"] (defScope sAo) := ⟨rfl, rfl, rfl, by decide +kernel, rfl, by decide +kernel, by decide +kernel⟩
theorem ok_ao {f : Addr} {fd : FuncData} (F : Fun K "answer_of" "answer_of" sAo f fd) (T : LTxt K C) {k0 k1 k2 k3 k4 k5 k6 k7 : Tok}
    (g0 : mg "BEGIN" = some (.int 0 k0)) (g1 : mg "TABLE" = some (.int 1 k1)) (g2 : mg "GROUP" = some (.int 2 k2)) (g3 : mg "COUNTS" = some (.int 3 k3)) (g4 : mg "STAY" = some (.int 4 k4)) (g5 : mg "MEAN" = some (.int 5 k5)) (g6 : mg "STAYS" = some (.int 6 k6)) (g7 : mg "FRESH" = some (.int 7 k7))
    (mB : MCal P w K mg base C "begin" 2 ["self", "n"] (spBe C))
    (mT : MCal P w K mg base C "table" 3 ["self", "numbers"] (spTa C))
    (mG : MCal P w K mg base C "group" 1 ["self"] (spGr C))
    (mC : MCal P w K mg base C "counts" 5 ["self", "d"] (spCo C))
    (mS : MCal P w K mg base C "stay" 44 ["self", "d"] (spSt C))
    (mM : MCal P w K mg base C "mean" 42 ["self", "d", "polynomial"] (spPoly C .mean))
    (mY : MCal P w K mg base C "stays" 7 ["self", "d", "polynomial"] (spPoly C .stays))
    (mF : MCal P w K mg base C "fresh" 46 ["self", "d"] (spFh C))
    (mK : MCal P w K mg base C "makes" 46 ["self", "d", "polynomial"] (spPoly C .makes))
    : FnOk P w K mg base CX0 50 f fd ["line", "call"] (spAo C) := by
  refine F.ok scAo (fun vs H Q E h => ?_) (fun cdv A outer s H vs Q E hr h => ?_)
  · obtain ⟨z0, a, l, s, c, u, x, rfl, _⟩ := h
    rfl
  · have nd : NAo.Nodup := scAo.nd
    obtain ⟨z0, a, l, st, c, u, x, rfl, L, hl, R, hdoc, g30, u9, ub, k⟩ := h
    refine ⟨_, (pss_cons (ps_if (pt_cmpR op_eq (pe_ix (r := rIxL K) ix_list (pv 1) pe_int (fun _ _ => rfl)) (pe_glob (v := .int 0) rfl g0 ⟨_, rfl⟩) (nomark _)) (pss_one (ps_ret (pe_meth (pv 0) T.cl mB.me mB.ok (hr.mono (by decide)) mB.b .nil pass0 (pa_cons (pe_ix (r := rIxL K) ix_list (pv 1) pe_int (fun _ _ => rfl)) pa_nil)))) pss_nil)
      (pss_cons (ps_if (pt_cmpR op_eq (pe_ix (r := rIxL K) ix_list (pv 1) pe_int (fun _ _ => rfl)) (pe_glob (v := .int 1) rfl g1 ⟨_, rfl⟩) (nomark _)) (pss_one (ps_ret (pe_meth (pv 0) T.cl mT.me mT.ok (hr.mono (by decide)) mT.b .nil pass0 (pa_cons (pe_slice sl_list (pv 1) (po_some pe_int) po_none) pa_nil)))) pss_nil)
      (pss_cons (ps_if (pt_cmpR op_eq (pe_ix (r := rIxL K) ix_list (pv 1) pe_int (fun _ _ => rfl)) (pe_glob (v := .int 2) rfl g2 ⟨_, rfl⟩) (nomark _)) (pss_one (ps_ret (pe_meth0 (pv 0) T.cl mG.me mG.ok (hr.mono (by decide)) mG.b .nil pass0))) pss_nil)
      (pss_cons (ps_if (pt_cmpR op_eq (pe_ix (r := rIxL K) ix_list (pv 1) pe_int (fun _ _ => rfl)) (pe_glob (v := .int 3) rfl g3 ⟨_, rfl⟩) (nomark _)) (pss_one (ps_ret (pe_meth (pv 0) T.cl mC.me mC.ok (hr.mono (by decide)) mC.b .nil pass0 (pa_cons (pe_ix (r := rIxL K) ix_list (pv 1) pe_int (fun _ _ => rfl)) pa_nil)))) pss_nil)
      (pss_cons (ps_if (pt_cmpR op_eq (pe_ix (r := rIxL K) ix_list (pv 1) pe_int (fun _ _ => rfl)) (pe_glob (v := .int 4) rfl g4 ⟨_, rfl⟩) (nomark _)) (pss_one (ps_ret (pe_meth (pv 0) T.cl mS.me mS.ok (hr.mono (by decide)) mS.b .nil pass0 (pa_cons (pe_ix (r := rIxL K) ix_list (pv 1) pe_int (fun _ _ => rfl)) pa_nil)))) pss_nil)
      (pss_cons (ps_if (pt_cmpR op_eq (pe_ix (r := rIxL K) ix_list (pv 1) pe_int (fun _ _ => rfl)) (pe_glob (v := .int 5) rfl g5 ⟨_, rfl⟩) (nomark _)) (pss_one (ps_ret (pe_meth (pv 0) T.cl mM.me mM.ok (hr.mono (by decide)) mM.b .nil pass0 (pa_cons (pe_ix (r := rIxL K) ix_list (pv 1) pe_int (fun _ _ => rfl)) (pa_cons (pe_slice sl_list (pv 1) (po_some pe_int) po_none) pa_nil))))) pss_nil)
      (pss_cons (ps_if (pt_cmpR op_eq (pe_ix (r := rIxL K) ix_list (pv 1) pe_int (fun _ _ => rfl)) (pe_glob (v := .int 6) rfl g6 ⟨_, rfl⟩) (nomark _)) (pss_one (ps_ret (pe_meth (pv 0) T.cl mY.me mY.ok (hr.mono (by decide)) mY.b .nil pass0 (pa_cons (pe_ix (r := rIxL K) ix_list (pv 1) pe_int (fun _ _ => rfl)) (pa_cons (pe_slice sl_list (pv 1) (po_some pe_int) po_none) pa_nil))))) pss_nil)
      (pss_cons (ps_if (pt_cmpR op_eq (pe_ix (r := rIxL K) ix_list (pv 1) pe_int (fun _ _ => rfl)) (pe_glob (v := .int 7) rfl g7 ⟨_, rfl⟩) (nomark _)) (pss_one (ps_ret (pe_meth (pv 0) T.cl mF.me mF.ok (hr.mono (by decide)) mF.b .nil pass0 (pa_cons (pe_ix (r := rIxL K) ix_list (pv 1) pe_int (fun _ _ => rfl)) pa_nil)))) pss_nil)
      (pss_one (ps_ret (pe_meth (pv 0) T.cl mK.me mK.ok (hr.mono (by decide)) mK.b .nil pass0 (pa_cons (pe_ix (r := rIxL K) ix_list (pv 1) pe_int (fun _ _ => rfl)) (pa_cons (pe_slice sl_list (pv 1) (po_some pe_int) po_none) pa_nil))))))))))))), ?_⟩
    have L0 := L
    obtain ⟨dx, tl, tb, TT, G, hp, _⟩ := L
    cases R with
    | one p y h =>
      rcases h with rfl | rfl | rfl | rfl
      · obtain rfl : (Wp04.Call.begin_ y) = x := Option.some.inj ((show LA.docCall _ = some ((Wp04.Call.begin_ y)) from rfl).symm.trans hdoc)
        refine ⟨_, rfl, l, _, _, _, rfl, rfl, SqL.of hl, at_of (j := 0) rfl rfl, rfl, _, rfl, ?_⟩
        refine ifT (by simp) ?_
        refine ⟨_, rfl, a, dx, _, rfl, hp, lF_none (by decide +kernel), _, rfl, l, _, _, _, rfl, rfl, SqL.of hl, at_of (j := 1) rfl rfl, z0, a, st, y, rfl, L0, k⟩
      · obtain rfl : (Wp04.Call.counts y) = x := Option.some.inj ((show LA.docCall _ = some ((Wp04.Call.counts y)) from rfl).symm.trans hdoc)
        refine ⟨_, rfl, l, _, _, _, rfl, rfl, SqL.of hl, at_of (j := 0) rfl rfl, rfl, _, rfl, ?_⟩
        refine ifF (by simp) ?_
        refine ⟨_, rfl, l, _, _, _, rfl, rfl, SqL.of hl, at_of (j := 0) rfl rfl, rfl, _, rfl, ?_⟩
        refine ifF (by simp) ?_
        refine ⟨_, rfl, l, _, _, _, rfl, rfl, SqL.of hl, at_of (j := 0) rfl rfl, rfl, _, rfl, ?_⟩
        refine ifF (by simp) ?_
        refine ⟨_, rfl, l, _, _, _, rfl, rfl, SqL.of hl, at_of (j := 0) rfl rfl, rfl, _, rfl, ?_⟩
        refine ifT (by simp) ?_
        refine ⟨_, rfl, a, dx, _, rfl, hp, lF_none (by decide +kernel), _, rfl, l, _, _, _, rfl, rfl, SqL.of hl, at_of (j := 1) rfl rfl, z0, a, st, y, rfl, L0, k⟩
      · obtain rfl : (Wp04.Call.stay y) = x := Option.some.inj ((show LA.docCall _ = some ((Wp04.Call.stay y)) from rfl).symm.trans hdoc)
        refine ⟨_, rfl, l, _, _, _, rfl, rfl, SqL.of hl, at_of (j := 0) rfl rfl, rfl, _, rfl, ?_⟩
        refine ifF (by simp) ?_
        refine ⟨_, rfl, l, _, _, _, rfl, rfl, SqL.of hl, at_of (j := 0) rfl rfl, rfl, _, rfl, ?_⟩
        refine ifF (by simp) ?_
        refine ⟨_, rfl, l, _, _, _, rfl, rfl, SqL.of hl, at_of (j := 0) rfl rfl, rfl, _, rfl, ?_⟩
        refine ifF (by simp) ?_
        refine ⟨_, rfl, l, _, _, _, rfl, rfl, SqL.of hl, at_of (j := 0) rfl rfl, rfl, _, rfl, ?_⟩
        refine ifF (by simp) ?_
        refine ⟨_, rfl, l, _, _, _, rfl, rfl, SqL.of hl, at_of (j := 0) rfl rfl, rfl, _, rfl, ?_⟩
        refine ifT (by simp) ?_
        refine ⟨_, rfl, a, dx, _, rfl, hp, lF_none (by decide +kernel), _, rfl, l, _, _, _, rfl, rfl, SqL.of hl, at_of (j := 1) rfl rfl, z0, a, st, y, rfl, L0, k⟩
      · obtain rfl : (Wp04.Call.fresh y) = x := Option.some.inj ((show LA.docCall _ = some ((Wp04.Call.fresh y)) from rfl).symm.trans hdoc)
        refine ⟨_, rfl, l, _, _, _, rfl, rfl, SqL.of hl, at_of (j := 0) rfl rfl, rfl, _, rfl, ?_⟩
        refine ifF (by simp) ?_
        refine ⟨_, rfl, l, _, _, _, rfl, rfl, SqL.of hl, at_of (j := 0) rfl rfl, rfl, _, rfl, ?_⟩
        refine ifF (by simp) ?_
        refine ⟨_, rfl, l, _, _, _, rfl, rfl, SqL.of hl, at_of (j := 0) rfl rfl, rfl, _, rfl, ?_⟩
        refine ifF (by simp) ?_
        refine ⟨_, rfl, l, _, _, _, rfl, rfl, SqL.of hl, at_of (j := 0) rfl rfl, rfl, _, rfl, ?_⟩
        refine ifF (by simp) ?_
        refine ⟨_, rfl, l, _, _, _, rfl, rfl, SqL.of hl, at_of (j := 0) rfl rfl, rfl, _, rfl, ?_⟩
        refine ifF (by simp) ?_
        refine ⟨_, rfl, l, _, _, _, rfl, rfl, SqL.of hl, at_of (j := 0) rfl rfl, rfl, _, rfl, ?_⟩
        refine ifF (by simp) ?_
        refine ⟨_, rfl, l, _, _, _, rfl, rfl, SqL.of hl, at_of (j := 0) rfl rfl, rfl, _, rfl, ?_⟩
        refine ifF (by simp) ?_
        refine ⟨_, rfl, l, _, _, _, rfl, rfl, SqL.of hl, at_of (j := 0) rfl rfl, rfl, _, rfl, ?_⟩
        refine ifT (by simp) ?_
        refine ⟨_, rfl, a, dx, _, rfl, hp, lF_none (by decide +kernel), _, rfl, l, _, _, _, rfl, rfl, SqL.of hl, at_of (j := 1) rfl rfl, z0, a, st, y, rfl, L0, k⟩
    | non =>
      obtain rfl : (Wp04.Call.group) = x := Option.some.inj ((show LA.docCall _ = some ((Wp04.Call.group)) from rfl).symm.trans hdoc)
      refine ⟨_, rfl, l, _, _, _, rfl, rfl, SqL.of hl, at_of (j := 0) rfl rfl, rfl, _, rfl, ?_⟩
      refine ifF (by simp) ?_
      refine ⟨_, rfl, l, _, _, _, rfl, rfl, SqL.of hl, at_of (j := 0) rfl rfl, rfl, _, rfl, ?_⟩
      refine ifF (by simp) ?_
      refine ⟨_, rfl, l, _, _, _, rfl, rfl, SqL.of hl, at_of (j := 0) rfl rfl, rfl, _, rfl, ?_⟩
      refine ifT (by simp) ?_
      refine ⟨_, rfl, a, dx, _, rfl, hp, lF_none (by decide +kernel), z0, a, st, rfl, L0, k⟩
    | row r =>
      obtain rfl : (Wp04.Call.table r) = x := Option.some.inj ((show LA.docCall _ = some ((Wp04.Call.table r)) from rfl).symm.trans hdoc)
      refine ⟨_, rfl, l, _, _, _, rfl, rfl, SqL.of hl, at_of (j := 0) rfl rfl, rfl, _, rfl, ?_⟩
      refine ifF (by simp) ?_
      refine ⟨_, rfl, l, _, _, _, rfl, rfl, SqL.of hl, at_of (j := 0) rfl rfl, rfl, _, rfl, ?_⟩
      refine ifT (by simp) ?_
      refine ⟨_, rfl, a, dx, _, rfl, hp, lF_none (by decide +kernel), _, rfl, _, rfl, ?_⟩
      simp only [tNoPart]
      refine ⟨l, _, rfl, SqL.of hl, fun q hq => ?_⟩
      have ec : cutV ((1 :: (r.length : Int) :: r).map V.int) (some 2) none = r.map V.int := cut_at (j := 2) (by simp)
      rw [ec]
      have sq := same_upd (o := HO.lst (r.map V.int)) hq
      refine ⟨z0, a, q, st, r, rfl, L0.same sq, upd_same, ?_, g30, ans_later k sq⟩
      simp only [List.length_cons] at u9
      omega
    | oneRow p y r h =>
      rcases h with rfl | rfl | rfl
      · obtain rfl : (Wp04.Call.mean y r) = x := Option.some.inj ((show LA.docCall _ = some ((Wp04.Call.mean y r)) from rfl).symm.trans hdoc)
        refine ⟨_, rfl, l, _, _, _, rfl, rfl, SqL.of hl, at_of (j := 0) rfl rfl, rfl, _, rfl, ?_⟩
        refine ifF (by simp) ?_
        refine ⟨_, rfl, l, _, _, _, rfl, rfl, SqL.of hl, at_of (j := 0) rfl rfl, rfl, _, rfl, ?_⟩
        refine ifF (by simp) ?_
        refine ⟨_, rfl, l, _, _, _, rfl, rfl, SqL.of hl, at_of (j := 0) rfl rfl, rfl, _, rfl, ?_⟩
        refine ifF (by simp) ?_
        refine ⟨_, rfl, l, _, _, _, rfl, rfl, SqL.of hl, at_of (j := 0) rfl rfl, rfl, _, rfl, ?_⟩
        refine ifF (by simp) ?_
        refine ⟨_, rfl, l, _, _, _, rfl, rfl, SqL.of hl, at_of (j := 0) rfl rfl, rfl, _, rfl, ?_⟩
        refine ifF (by simp) ?_
        refine ⟨_, rfl, l, _, _, _, rfl, rfl, SqL.of hl, at_of (j := 0) rfl rfl, rfl, _, rfl, ?_⟩
        refine ifT (by simp) ?_
        refine ⟨_, rfl, a, dx, _, rfl, hp, lF_none (by decide +kernel), _, rfl, l, _, _, _, rfl, rfl, SqL.of hl, at_of (j := 1) rfl rfl, _, rfl, _, rfl, ?_⟩
        simp only [tNoPart]
        refine ⟨l, _, rfl, SqL.of hl, fun q hq => ?_⟩
        have ec : cutV ((5 :: y :: (r.length : Int) :: r).map V.int) (some 3) none = r.map V.int := cut_at (j := 3) (by simp)
        rw [ec]
        have sq := same_upd (o := HO.lst (r.map V.int)) hq
        refine ⟨z0, a, q, st, y, r, rfl, L0.same sq, upd_same, ?_, ans_later k sq⟩
        simp only [List.length_cons] at u9
        omega
      · obtain rfl : (Wp04.Call.stays y r) = x := Option.some.inj ((show LA.docCall _ = some ((Wp04.Call.stays y r)) from rfl).symm.trans hdoc)
        refine ⟨_, rfl, l, _, _, _, rfl, rfl, SqL.of hl, at_of (j := 0) rfl rfl, rfl, _, rfl, ?_⟩
        refine ifF (by simp) ?_
        refine ⟨_, rfl, l, _, _, _, rfl, rfl, SqL.of hl, at_of (j := 0) rfl rfl, rfl, _, rfl, ?_⟩
        refine ifF (by simp) ?_
        refine ⟨_, rfl, l, _, _, _, rfl, rfl, SqL.of hl, at_of (j := 0) rfl rfl, rfl, _, rfl, ?_⟩
        refine ifF (by simp) ?_
        refine ⟨_, rfl, l, _, _, _, rfl, rfl, SqL.of hl, at_of (j := 0) rfl rfl, rfl, _, rfl, ?_⟩
        refine ifF (by simp) ?_
        refine ⟨_, rfl, l, _, _, _, rfl, rfl, SqL.of hl, at_of (j := 0) rfl rfl, rfl, _, rfl, ?_⟩
        refine ifF (by simp) ?_
        refine ⟨_, rfl, l, _, _, _, rfl, rfl, SqL.of hl, at_of (j := 0) rfl rfl, rfl, _, rfl, ?_⟩
        refine ifF (by simp) ?_
        refine ⟨_, rfl, l, _, _, _, rfl, rfl, SqL.of hl, at_of (j := 0) rfl rfl, rfl, _, rfl, ?_⟩
        refine ifT (by simp) ?_
        refine ⟨_, rfl, a, dx, _, rfl, hp, lF_none (by decide +kernel), _, rfl, l, _, _, _, rfl, rfl, SqL.of hl, at_of (j := 1) rfl rfl, _, rfl, _, rfl, ?_⟩
        simp only [tNoPart]
        refine ⟨l, _, rfl, SqL.of hl, fun q hq => ?_⟩
        have ec : cutV ((6 :: y :: (r.length : Int) :: r).map V.int) (some 3) none = r.map V.int := cut_at (j := 3) (by simp)
        rw [ec]
        have sq := same_upd (o := HO.lst (r.map V.int)) hq
        refine ⟨z0, a, q, st, y, r, rfl, L0.same sq, upd_same, ?_, ans_later k sq⟩
        simp only [List.length_cons] at u9
        omega
      · obtain rfl : (Wp04.Call.makes y r) = x := Option.some.inj ((show LA.docCall _ = some ((Wp04.Call.makes y r)) from rfl).symm.trans hdoc)
        refine ⟨_, rfl, l, _, _, _, rfl, rfl, SqL.of hl, at_of (j := 0) rfl rfl, rfl, _, rfl, ?_⟩
        refine ifF (by simp) ?_
        refine ⟨_, rfl, l, _, _, _, rfl, rfl, SqL.of hl, at_of (j := 0) rfl rfl, rfl, _, rfl, ?_⟩
        refine ifF (by simp) ?_
        refine ⟨_, rfl, l, _, _, _, rfl, rfl, SqL.of hl, at_of (j := 0) rfl rfl, rfl, _, rfl, ?_⟩
        refine ifF (by simp) ?_
        refine ⟨_, rfl, l, _, _, _, rfl, rfl, SqL.of hl, at_of (j := 0) rfl rfl, rfl, _, rfl, ?_⟩
        refine ifF (by simp) ?_
        refine ⟨_, rfl, l, _, _, _, rfl, rfl, SqL.of hl, at_of (j := 0) rfl rfl, rfl, _, rfl, ?_⟩
        refine ifF (by simp) ?_
        refine ⟨_, rfl, l, _, _, _, rfl, rfl, SqL.of hl, at_of (j := 0) rfl rfl, rfl, _, rfl, ?_⟩
        refine ifF (by simp) ?_
        refine ⟨_, rfl, l, _, _, _, rfl, rfl, SqL.of hl, at_of (j := 0) rfl rfl, rfl, _, rfl, ?_⟩
        refine ifF (by simp) ?_
        refine ⟨_, rfl, l, _, _, _, rfl, rfl, SqL.of hl, at_of (j := 0) rfl rfl, rfl, _, rfl, ?_⟩
        refine ifF (by simp) ?_
        refine ⟨_, rfl, a, dx, _, rfl, hp, lF_none (by decide +kernel), _, rfl, l, _, _, _, rfl, rfl, SqL.of hl, at_of (j := 1) rfl rfl, _, rfl, _, rfl, ?_⟩
        simp only [tNoPart]
        refine ⟨l, _, rfl, SqL.of hl, fun q hq => ?_⟩
        have ec : cutV ((8 :: y :: (r.length : Int) :: r).map V.int) (some 3) none = r.map V.int := cut_at (j := 3) (by simp)
        rw [ec]
        have sq := same_upd (o := HO.lst (r.map V.int)) hq
        refine ⟨z0, a, q, st, y, r, rfl, L0.same sq, upd_same, ?_, ans_later k sq⟩
        simp only [List.length_cons] at u9
        omega
end LF
end
section
set_option maxRecDepth 100000
set_option maxHeartbeats 4000000
namespace LF
open PySem PySem.Spec PyProof.Rows L2
/-- a def of the top -/
def TopFn (K : PySem.W.Frag) (x : Str) (st : Stmt) : Prop := ∃ (f : Addr) (fd : FuncData), PySem.W.nsIn K mainGlobals x = some (some (.ref f)) ∧ Fun K x x st f fd
/-- a def of the class -/
def MetFn (K : PySem.W.Frag) (C : Addr) (x qual : Str) (st : Stmt) : Prop := ∃ (f : Addr) (fd : FuncData), (PySem.W.findIn K (.ref C) x = some (some (.ref f)) ∧ PySem.W.isFn K (.ref f) = true) ∧ Fun K x qual st f fd
section
variable {P : Program} {w : World} {K : PySem.W.Frag} {mg : Str → Option Value} {base h : Heap} {C : Addr}
theorem TopFn.cal {x : Str} {st : Stmt} {ps : List Str} {k : Nat} {sp : Sp} (X : K.In h) (G : h.Ns mainGlobals mg) (t : TopFn K x st)
    (hb : ∀ (kV doc pm : Value) (an : Option Addr) (cdv ct : Value) (us : List Value), us.length = ps.length → bindArgs (PySem.W.fnOf x x (defArgs st) (defBody st) (defScope st) .none kV doc pm an cdv ct) ⟨us, []⟩ = pure (ps.zip us))
    (ok : ∀ f fd, Fun K x x st f fd → FnOk P w K mg base CX0 k f fd ps sp) : Nonempty (Cal P w K mg base x k ps sp) := by
  obtain ⟨f, fd, a, F⟩ := t
  exact ⟨⟨f, fd, ok f fd F, PySem.W.mg_of X G a, F.kp, F.binds hb⟩⟩
theorem MetFn.cal {x qual : Str} {st : Stmt} {ps : List Str} {k : Nat} {sp : Sp} (t : MetFn K C x qual st)
    (hb : ∀ (kV doc pm : Value) (an : Option Addr) (cdv ct : Value) (us : List Value), us.length = ps.length → bindArgs (PySem.W.fnOf x qual (defArgs st) (defBody st) (defScope st) .none kV doc pm an cdv ct) ⟨us, []⟩ = pure (ps.zip us))
    (ok : ∀ f fd, Fun K x qual st f fd → FnOk P w K mg base CX0 k f fd ps sp) : Nonempty (MCal P w K mg base C x k ps sp) := by
  obtain ⟨f, fd, ⟨a, i⟩, F⟩ := t
  exact ⟨⟨f, fd, ok f fd F, ⟨a, i, F.kp⟩, F.binds hb⟩⟩
end
/-- what the top has written -/
structure Tops (K : PySem.W.Frag) (C : Addr) : Prop where
  t_nothing_done : TopFn K "nothing_done" sNd
  t_made : TopFn K "made" sMd
  t_group_of : TopFn K "group_of" sGo
  t_can_be_undone : TopFn K "can_be_undone" sCu
  t_traces_of_powers : TopFn K "traces_of_powers" sTp
  t_traces_by_degree : TopFn K "traces_by_degree" sTd
  t_counts_that_stay : TopFn K "counts_that_stay" sCs
  t_monomials : TopFn K "monomials" sMo
  t_with_more : TopFn K "with_more" sWm
  t_first_unknown : TopFn K "first_unknown" sFu
  t_times_row : TopFn K "times_row" sTw
  t_polynomial_of : TopFn K "polynomial_of" sPf
  t_product_of : TopFn K "product_of" sPr
  t_moved_monomials : TopFn K "moved_monomials" sMm
  t_sums_of_moved : TopFn K "sums_of_moved" sSm
  t_common_part : TopFn K "common_part" sCp
  t_told_fraction : TopFn K "told_fraction" sTf
  t_shortened : TopFn K "shortened" sSh
  t_cleared : TopFn K "cleared" sCl
  t_place_of_one_with : TopFn K "place_of_one_with" sPo
  t_fewest_rows : TopFn K "fewest_rows" sFr
  t_first_place : TopFn K "first_place" sFn
  t_is_made_of : TopFn K "is_made_of" sIm
  t_told_row : TopFn K "told_row" sTr
  t_sum_of_moved : TopFn K "sum_of_moved" sSo
  t_is_left_alone : TopFn K "is_left_alone" sIl
  t_rows_that_stay : TopFn K "rows_that_stay" sRs
  t_polynomials_that_stay : TopFn K "polynomials_that_stay" sPs
  t_rows_made_of_lower : TopFn K "rows_made_of_lower" sRm
  t_counts_of_new : TopFn K "counts_of_new" sCn
  t_is_made_of_lower : TopFn K "is_made_of_lower" sIo
  t_is_table : TopFn K "is_table" sIt
  t_is_polynomial : TopFn K "is_polynomial" sIp
  t_end_of_call : TopFn K "end_of_call" sEc
  t_answer_of : TopFn K "answer_of" sAo
  t_answers : TopFn K "answers" sAn
  m_allows_degree : MetFn K C "allows_degree" "Line.allows_degree" sAd
  m_allows_polynomial : MetFn K C "allows_polynomial" "Line.allows_polynomial" sAp
  m_begin : MetFn K C "begin" "Line.begin" sBe
  m_table : MetFn K C "table" "Line.table" sTa
  m_group : MetFn K C "group" "Line.group" sGr
  m_counts : MetFn K C "counts" "Line.counts" sCo
  m_stay : MetFn K C "stay" "Line.stay" sSt
  m_mean : MetFn K C "mean" "Line.mean" sMe
  m_stays : MetFn K C "stays" "Line.stays" sSy
  m_fresh : MetFn K C "fresh" "Line.fresh" sFh
  m_makes : MetFn K C "makes" "Line.makes" sMk
  m_init : MetFn K C "__init__" "Line.__init__" sIn
  aC : PySem.W.nsIn K mainGlobals "Line" = some (some (.ref C))
  mks : PySem.W.makesIn K C = true
  kc : PySem.W.keepIn K (.ref C) = true
  txt : LTxt K C
/-- the constants -/
structure Cons (K : PySem.W.Frag) (d t1 t2 : Addr) (k0 k1 k2 k3 k4 k5 k6 k7 k8 k9 k10 k11 k12 k13 k14 k15 : Tok) : Prop where
  most : PySem.W.nsIn K mainGlobals "MOST_TABLES" = some (some (.int 48 k0))
  great : PySem.W.nsIn K mainGlobals "GREATEST_IN_TABLE" = some (some (.int 2 k1))
  first : PySem.W.nsIn K mainGlobals "UNKNOWNS_AT_FIRST" = some (some (.int 2 k2))
  not_ : PySem.W.nsIn K mainGlobals "NOT_ALLOWED" = some (some (.int (-1) k3))
  many : PySem.W.nsIn K mainGlobals "TOO_MANY_TABLES" = some (some (.int (-2) k4))
  und : PySem.W.nsIn K mainGlobals "NOT_UNDONE" = some (some (.int (-6) k5))
  does : PySem.W.nsIn K mainGlobals "DOES_NOT_STAY" = some (some (.int (-4) k6))
  poly : PySem.W.nsIn K mainGlobals "GREATEST_IN_POLYNOMIAL" = some (some (.int 1000 k7))
  c0 : PySem.W.nsIn K mainGlobals "BEGIN" = some (some (.int 0 k8))
  c1 : PySem.W.nsIn K mainGlobals "TABLE" = some (some (.int 1 k9))
  c2 : PySem.W.nsIn K mainGlobals "GROUP" = some (some (.int 2 k10))
  c3 : PySem.W.nsIn K mainGlobals "COUNTS" = some (some (.int 3 k11))
  c4 : PySem.W.nsIn K mainGlobals "STAY" = some (some (.int 4 k12))
  c5 : PySem.W.nsIn K mainGlobals "MEAN" = some (some (.int 5 k13))
  c6 : PySem.W.nsIn K mainGlobals "STAYS" = some (some (.int 6 k14))
  c7 : PySem.W.nsIn K mainGlobals "FRESH" = some (some (.int 7 k15))
  deg : PySem.W.nsIn K mainGlobals "GREATEST_DEGREES" = some (some (.ref d))
  wh : PySem.W.nsIn K mainGlobals "WHOLE_NUMBERS" = some (some (.ref t1))
  has : PySem.W.nsIn K mainGlobals "HAS_ROW" = some (some (.ref t2))
  D : KDi K d kvDeg
  hWh : ∀ H : Hp, SqT K H t1 (whNum.map V.int)
  hHas : ∀ H : Hp, SqT K H t2 (hasRow.map V.bl)
theorem kdi_mk {K : PySem.W.Frag} {d : Addr} {es : Array DictEntry} {n : Nat} {kvs : List (Int × Int)} (l : K.lookup d = some ⟨.type "dict", none, .dict es n, #[]⟩) (ki : KI es.toList kvs) (low : (d == sysModules) = false) : KDi K d kvs := ⟨⟨es, n, l, ki⟩, low⟩
theorem sqt_mk {K : PySem.W.Frag} {t : Addr} {o : Obj} {its : Array Value} {n : Nat} {xs : List V} (l : K.lookup t = some o) (e1 : o.cls = .type "tuple") (e2 : o.data = .seq its n) (sz : its.size ≤ sizeLine) (vs : Vals xs its.toList) : ∀ H : Hp, SqT K H t xs := fun _ => .inr ⟨o, its, n, l, e1, e2, sz, vs⟩
/-- the built-ins -/
structure BiK (K : PySem.W.Frag) : Prop where
  tuple : PySem.W.nsIn K mainGlobals "tuple" = some none
  range : PySem.W.nsIn K mainGlobals "range" = some none
  sum : PySem.W.nsIn K mainGlobals "sum" = some none
  len : PySem.W.nsIn K mainGlobals "len" = some none
  sorted : PySem.W.nsIn K mainGlobals "sorted" = some none
  any : PySem.W.nsIn K mainGlobals "any" = some none
  all : PySem.W.nsIn K mainGlobals "all" = some none
  abs : PySem.W.nsIn K mainGlobals "abs" = some none
  list : PySem.W.nsIn K mainGlobals "list" = some none
  int : PySem.W.nsIn K mainGlobals "int" = some none
theorem all_mk {P : Program} {w : World} {K : PySem.W.Frag} {h : Heap} {mg : Str → Option Value} {fa C d t1 t2 : Addr} {k0 k1 k2 k3 k4 k5 k6 k7 k8 k9 k10 k11 k12 k13 k14 k15 : Tok} (tree : P.given.tree = none) (X : K.In h) (G : h.Ns mainGlobals mg) (hfa : mg "answers" = some (.ref fa)) (TT : Tops K C) (CC : Cons K d t1 t2 k0 k1 k2 k3 k4 k5 k6 k7 k8 k9 k10 k11 k12 k13 k14 k15) (BB : BiK K) :
    ∃ fd : FuncData, (∀ (s : Shared) (us : List Value), us.length = (["calls"] : List Str).length → BindsTo s fd ⟨us, []⟩ ((["calls"] : List Str).zip us)) ∧ ∀ base : Heap, K.In base → base.Ns mainGlobals mg → base.NoSeer → FnOk P w K mg base CX0 51 fa fd ["calls"] (spAns K) := by
  have B : Bi mg := ⟨PySem.W.mg_none_of X G BB.tuple, PySem.W.mg_none_of X G BB.range, PySem.W.mg_none_of X G BB.sum, PySem.W.mg_none_of X G BB.len, PySem.W.mg_none_of X G BB.sorted, PySem.W.mg_none_of X G BB.any, PySem.W.mg_none_of X G BB.all, PySem.W.mg_none_of X G BB.abs, PySem.W.mg_none_of X G BB.list, PySem.W.mg_none_of X G BB.int⟩
  have gMost := PySem.W.mg_of X G CC.most
  have gGreat := PySem.W.mg_of X G CC.great
  have gFirst := PySem.W.mg_of X G CC.first
  have gNot := PySem.W.mg_of X G CC.not_
  have gMany := PySem.W.mg_of X G CC.many
  have gUnd := PySem.W.mg_of X G CC.und
  have gDoes := PySem.W.mg_of X G CC.does
  have gPoly := PySem.W.mg_of X G CC.poly
  have g0 := PySem.W.mg_of X G CC.c0
  have g1 := PySem.W.mg_of X G CC.c1
  have g2 := PySem.W.mg_of X G CC.c2
  have g3 := PySem.W.mg_of X G CC.c3
  have g4 := PySem.W.mg_of X G CC.c4
  have g5 := PySem.W.mg_of X G CC.c5
  have g6 := PySem.W.mg_of X G CC.c6
  have g7 := PySem.W.mg_of X G CC.c7
  have gDeg := PySem.W.mg_of X G CC.deg
  have gWh := PySem.W.mg_of X G CC.wh
  have gHas := PySem.W.mg_of X G CC.has
  have D := CC.D
  have hWh := CC.hWh
  have hHas := CC.hHas
  have T := TT.txt
  obtain ⟨f, fd, a, F0⟩ := TT.t_answers
  have e := hfa.symm.trans (PySem.W.mg_of X G a)
  cases e
  obtain ⟨oc, od, kV, doc, pm, an, cdv, ct, osl, efd, lk, hcd⟩ := F0.ex
  refine ⟨fd, fun s us hu => ?_, fun base _ _ hs => ?_⟩
  · subst efd
    match us, hu with | [_], _ => exact .of_eq rfl
  have S : Sys P base := ⟨hs, tree⟩
  obtain ⟨c_nothing_done⟩ : Nonempty (Cal P w K mg base "nothing_done" 1 ["n"] spNd) := TT.t_nothing_done.cal X G (fun _ _ _ _ _ _ us hl => match us, hl with | [_], _ => rfl) fun f fd F => ok_nd F B
  obtain ⟨c_made⟩ : Nonempty (Cal P w K mg base "made" 1 ["n", "a", "b"] spMd) := TT.t_made.cal X G (fun _ _ _ _ _ _ us hl => match us, hl with | [_, _, _], _ => rfl) fun f fd F => ok_md F B
  obtain ⟨c_group_of⟩ : Nonempty (Cal P w K mg base "group_of" 2 ["n", "told"] spGo) := TT.t_group_of.cal X G (fun _ _ _ _ _ _ us hl => match us, hl with | [_, _], _ => rfl) fun f fd F => ok_go F B ⟨_, gMost⟩ c_nothing_done c_made
  obtain ⟨c_can_be_undone⟩ : Nonempty (Cal P w K mg base "can_be_undone" 2 ["n", "table", "group"] spCu) := TT.t_can_be_undone.cal X G (fun _ _ _ _ _ _ us hl => match us, hl with | [_, _, _], _ => rfl) fun f fd F => ok_cu F B c_nothing_done c_made
  obtain ⟨c_traces_of_powers⟩ : Nonempty (Cal P w K mg base "traces_of_powers" 2 ["n", "table", "d"] spTp) := TT.t_traces_of_powers.cal X G (fun _ _ _ _ _ _ us hl => match us, hl with | [_, _, _], _ => rfl) fun f fd F => ok_tp F B c_nothing_done c_made
  obtain ⟨c_traces_by_degree⟩ : Nonempty (Cal P w K mg base "traces_by_degree" 3 ["n", "table", "d"] spTd) := TT.t_traces_by_degree.cal X G (fun _ _ _ _ _ _ us hl => match us, hl with | [_, _, _], _ => rfl) fun f fd F => ok_td F B c_traces_of_powers
  obtain ⟨c_counts_that_stay⟩ : Nonempty (Cal P w K mg base "counts_that_stay" 4 ["n", "group", "d"] spCs) := TT.t_counts_that_stay.cal X G (fun _ _ _ _ _ _ us hl => match us, hl with | [_, _, _], _ => rfl) fun f fd F => ok_cs F B c_traces_by_degree
  obtain ⟨c_monomials⟩ : Nonempty (Cal P w K mg base "monomials" 1 ["n", "d"] spMo) := TT.t_monomials.cal X G (fun _ _ _ _ _ _ us hl => match us, hl with | [_, _], _ => rfl) fun f fd F => ok_mo F B
  obtain ⟨c_with_more⟩ : Nonempty (Cal P w K mg base "with_more" 1 ["monomial", "i", "more"] spWm) := TT.t_with_more.cal X G (fun _ _ _ _ _ _ us hl => match us, hl with | [_, _, _], _ => rfl) fun f fd F => ok_wm F B
  obtain ⟨c_first_unknown⟩ : Nonempty (Cal P w K mg base "first_unknown" 1 ["monomial"] spFu) := TT.t_first_unknown.cal X G (fun _ _ _ _ _ _ us hl => match us, hl with | [_], _ => rfl) fun f fd F => ok_fu F B
  obtain ⟨c_times_row⟩ : Nonempty (Cal P w K mg base "times_row" 2 ["polynomial", "row"] spTw) := TT.t_times_row.cal X G (fun _ _ _ _ _ _ us hl => match us, hl with | [_, _], _ => rfl) fun f fd F => ok_tw F B c_with_more
  obtain ⟨c_polynomial_of⟩ : Nonempty (Cal P w K mg base "polynomial_of" 1 ["order", "row"] spPf) := TT.t_polynomial_of.cal X G (fun _ _ _ _ _ _ us hl => match us, hl with | [_, _], _ => rfl) fun f fd F => ok_pf F B
  obtain ⟨c_product_of⟩ : Nonempty (Cal P w K mg base "product_of" 1 ["a", "b"] spPr) := TT.t_product_of.cal X G (fun _ _ _ _ _ _ us hl => match us, hl with | [_, _], _ => rfl) fun f fd F => ok_pr F B
  obtain ⟨c_moved_monomials⟩ : Nonempty (Cal P w K mg base "moved_monomials" 3 ["n", "table", "d"] spMm) := TT.t_moved_monomials.cal X G (fun _ _ _ _ _ _ us hl => match us, hl with | [_, _, _], _ => rfl) fun f fd F => ok_mm F B c_monomials c_first_unknown c_with_more c_times_row
  obtain ⟨c_sums_of_moved⟩ : Nonempty (Cal P w K mg base "sums_of_moved" 4 ["n", "group", "d"] spSm) := TT.t_sums_of_moved.cal X G (fun _ _ _ _ _ _ us hl => match us, hl with | [_, _, _], _ => rfl) fun f fd F => ok_sm F B c_monomials c_moved_monomials
  obtain ⟨c_common_part⟩ : Nonempty (Cal P w K mg base "common_part" 1 ["a", "b"] spCp) := TT.t_common_part.cal X G (fun _ _ _ _ _ _ us hl => match us, hl with | [_, _], _ => rfl) fun f fd F => ok_cp F B
  obtain ⟨c_told_fraction⟩ : Nonempty (Cal P w K mg base "told_fraction" 40 ["above", "below"] spTf) := TT.t_told_fraction.cal X G (fun _ _ _ _ _ _ us hl => match us, hl with | [_, _], _ => rfl) fun f fd F => ok_tf F B S c_common_part
  obtain ⟨c_shortened⟩ : Nonempty (Cal P w K mg base "shortened" 40 ["row"] spSh) := TT.t_shortened.cal X G (fun _ _ _ _ _ _ us hl => match us, hl with | [_], _ => rfl) fun f fd F => ok_sh F B S c_common_part
  obtain ⟨c_cleared⟩ : Nonempty (Cal P w K mg base "cleared" 41 ["row", "by", "place"] spCl) := TT.t_cleared.cal X G (fun _ _ _ _ _ _ us hl => match us, hl with | [_, _, _], _ => rfl) fun f fd F => ok_cl F B c_shortened
  obtain ⟨c_place_of_one_with⟩ : Nonempty (Cal P w K mg base "place_of_one_with" 1 ["rows", "place"] spPo) := TT.t_place_of_one_with.cal X G (fun _ _ _ _ _ _ us hl => match us, hl with | [_, _], _ => rfl) fun f fd F => ok_po F B
  obtain ⟨c_fewest_rows⟩ : Nonempty (Cal P w K mg base "fewest_rows" 42 ["rows"] spFr) := TT.t_fewest_rows.cal X G (fun _ _ _ _ _ _ us hl => match us, hl with | [_], _ => rfl) fun f fd F => ok_fr F B c_place_of_one_with c_cleared
  obtain ⟨c_first_place⟩ : Nonempty (Cal P w K mg base "first_place" 1 ["row"] spFn) := TT.t_first_place.cal X G (fun _ _ _ _ _ _ us hl => match us, hl with | [_], _ => rfl) fun f fd F => ok_fn F B
  obtain ⟨c_is_made_of⟩ : Nonempty (Cal P w K mg base "is_made_of" 42 ["row", "rows"] spIm) := TT.t_is_made_of.cal X G (fun _ _ _ _ _ _ us hl => match us, hl with | [_, _], _ => rfl) fun f fd F => ok_im F B c_cleared c_first_place
  obtain ⟨c_told_row⟩ : Nonempty (Cal P w K mg base "told_row" 41 ["row", "below"] spTr) := TT.t_told_row.cal X G (fun _ _ _ _ _ _ us hl => match us, hl with | [_, _], _ => rfl) fun f fd F => ok_tr F B c_told_fraction
  obtain ⟨c_sum_of_moved⟩ : Nonempty (Cal P w K mg base "sum_of_moved" 5 ["n", "group", "d", "polynomial"] spSo) := TT.t_sum_of_moved.cal X G (fun _ _ _ _ _ _ us hl => match us, hl with | [_, _, _, _], _ => rfl) fun f fd F => ok_so F B c_sums_of_moved
  obtain ⟨c_is_left_alone⟩ : Nonempty (Cal P w K mg base "is_left_alone" 6 ["n", "group", "d", "polynomial"] spIl) := TT.t_is_left_alone.cal X G (fun _ _ _ _ _ _ us hl => match us, hl with | [_, _, _, _], _ => rfl) fun f fd F => ok_il F B c_sum_of_moved
  obtain ⟨c_rows_that_stay⟩ : Nonempty (Cal P w K mg base "rows_that_stay" 43 ["n", "group", "d"] spRs) := TT.t_rows_that_stay.cal X G (fun _ _ _ _ _ _ us hl => match us, hl with | [_, _, _], _ => rfl) fun f fd F => ok_rs F c_sums_of_moved c_fewest_rows
  obtain ⟨c_polynomials_that_stay⟩ : Nonempty (Cal P w K mg base "polynomials_that_stay" 44 ["n", "group", "d"] spPs) := TT.t_polynomials_that_stay.cal X G (fun _ _ _ _ _ _ us hl => match us, hl with | [_, _, _], _ => rfl) fun f fd F => ok_ps F B c_monomials c_rows_that_stay c_polynomial_of
  obtain ⟨c_rows_made_of_lower⟩ : Nonempty (Cal P w K mg base "rows_made_of_lower" 43 ["n", "lower_ones", "d"] spRm) := TT.t_rows_made_of_lower.cal X G (fun _ _ _ _ _ _ us hl => match us, hl with | [_, _, _], _ => rfl) fun f fd F => ok_rm F B c_monomials c_product_of c_fewest_rows
  obtain ⟨c_counts_of_new⟩ : Nonempty (Cal P w K mg base "counts_of_new" 45 ["n", "group", "d"] spCn) := TT.t_counts_of_new.cal X G (fun _ _ _ _ _ _ us hl => match us, hl with | [_, _, _], _ => rfl) fun f fd F => ok_cn F B c_polynomials_that_stay c_counts_that_stay c_rows_made_of_lower
  obtain ⟨c_is_made_of_lower⟩ : Nonempty (Cal P w K mg base "is_made_of_lower" 45 ["n", "group", "d", "polynomial"] spIo) := TT.t_is_made_of_lower.cal X G (fun _ _ _ _ _ _ us hl => match us, hl with | [_, _, _, _], _ => rfl) fun f fd F => ok_io F c_polynomials_that_stay c_rows_made_of_lower c_is_made_of
  obtain ⟨c_is_table⟩ : Nonempty (Cal P w K mg base "is_table" 1 ["n", "numbers"] spIt) := TT.t_is_table.cal X G (fun _ _ _ _ _ _ us hl => match us, hl with | [_, _], _ => rfl) fun f fd F => ok_it F B gGreat
  obtain ⟨c_is_polynomial⟩ : Nonempty (Cal P w K mg base "is_polynomial" 2 ["n", "d", "numbers"] spIp) := TT.t_is_polynomial.cal X G (fun _ _ _ _ _ _ us hl => match us, hl with | [_, _, _], _ => rfl) fun f fd F => ok_ip F B gPoly c_monomials
  obtain ⟨c_end_of_call⟩ : Nonempty (Cal P w K mg base "end_of_call" 1 ["calls", "place"] (spEc K)) := TT.t_end_of_call.cal X G (fun _ _ _ _ _ _ us hl => match us, hl with | [_, _], _ => rfl) fun f fd F => ok_ec F B gWh gHas hWh hHas
  obtain ⟨m_allows_degree⟩ : Nonempty (MCal P w K mg base C "allows_degree" 1 ["self", "d"] (spAd C)) := TT.m_allows_degree.cal (fun _ _ _ _ _ _ us hl => match us, hl with | [_, _], _ => rfl) fun f fd F => ok_ad F T gDeg D
  obtain ⟨m_allows_polynomial⟩ : Nonempty (MCal P w K mg base C "allows_polynomial" 3 ["self", "d", "polynomial"] (spAp C)) := TT.m_allows_polynomial.cal (fun _ _ _ _ _ _ us hl => match us, hl with | [_, _, _], _ => rfl) fun f fd F => ok_ap F T m_allows_degree c_is_polynomial
  obtain ⟨m_begin⟩ : Nonempty (MCal P w K mg base C "begin" 2 ["self", "n"] (spBe C)) := TT.m_begin.cal (fun _ _ _ _ _ _ us hl => match us, hl with | [_, _], _ => rfl) fun f fd F => ok_be F T gDeg D gNot c_nothing_done
  obtain ⟨m_table⟩ : Nonempty (MCal P w K mg base C "table" 3 ["self", "numbers"] (spTa C)) := TT.m_table.cal (fun _ _ _ _ _ _ us hl => match us, hl with | [_, _], _ => rfl) fun f fd F => ok_ta F B T gNot gMany gUnd c_is_table c_group_of c_can_be_undone
  obtain ⟨m_group⟩ : Nonempty (MCal P w K mg base C "group" 1 ["self"] (spGr C)) := TT.m_group.cal (fun _ _ _ _ _ _ us hl => match us, hl with | [_], _ => rfl) fun f fd F => ok_gr F B T
  obtain ⟨m_counts⟩ : Nonempty (MCal P w K mg base C "counts" 5 ["self", "d"] (spCo C)) := TT.m_counts.cal (fun _ _ _ _ _ _ us hl => match us, hl with | [_, _], _ => rfl) fun f fd F => ok_co F T gNot m_allows_degree c_counts_that_stay
  obtain ⟨m_stay⟩ : Nonempty (MCal P w K mg base C "stay" 44 ["self", "d"] (spSt C)) := TT.m_stay.cal (fun _ _ _ _ _ _ us hl => match us, hl with | [_, _], _ => rfl) fun f fd F => ok_st F B T gNot m_allows_degree c_rows_that_stay c_first_place c_told_row
  obtain ⟨m_mean⟩ : Nonempty (MCal P w K mg base C "mean" 42 ["self", "d", "polynomial"] (spPoly C .mean)) := TT.m_mean.cal (fun _ _ _ _ _ _ us hl => match us, hl with | [_, _, _], _ => rfl) fun f fd F => ok_me F B T gNot m_allows_polynomial c_told_row c_sum_of_moved
  obtain ⟨m_stays⟩ : Nonempty (MCal P w K mg base C "stays" 7 ["self", "d", "polynomial"] (spPoly C .stays)) := TT.m_stays.cal (fun _ _ _ _ _ _ us hl => match us, hl with | [_, _, _], _ => rfl) fun f fd F => ok_sy F B T gNot m_allows_polynomial c_is_left_alone
  obtain ⟨m_fresh⟩ : Nonempty (MCal P w K mg base C "fresh" 46 ["self", "d"] (spFh C)) := TT.m_fresh.cal (fun _ _ _ _ _ _ us hl => match us, hl with | [_, _], _ => rfl) fun f fd F => ok_fh F T gNot m_allows_degree c_counts_of_new
  obtain ⟨m_makes⟩ : Nonempty (MCal P w K mg base C "makes" 46 ["self", "d", "polynomial"] (spPoly C .makes)) := TT.m_makes.cal (fun _ _ _ _ _ _ us hl => match us, hl with | [_, _, _], _ => rfl) fun f fd F => ok_mk F B T gNot gDoes m_allows_polynomial c_is_left_alone c_is_made_of_lower
  obtain ⟨c_answer_of⟩ : Nonempty (Cal P w K mg base "answer_of" 50 ["line", "call"] (spAo C)) := TT.t_answer_of.cal X G (fun _ _ _ _ _ _ us hl => match us, hl with | [_, _], _ => rfl) fun f fd F => ok_ao F T g0 g1 g2 g3 g4 g5 g6 g7 m_begin m_table m_group m_counts m_stay m_mean m_stays m_fresh m_makes
  obtain ⟨fI, fdI, ⟨aI, iI⟩, FI⟩ := TT.m_init
  exact ok_ans (by decide) F0 B T (PySem.W.mg_of X G TT.aC) ⟨TT.mks, aI, iI, TT.kc⟩ (ok_in FI T gFirst c_nothing_done) (FI.binds fun _ _ _ _ _ _ us hl => match us, hl with | [_], _ => rfl) c_end_of_call c_answer_of
end LF
end
open PySem PySem.W PyProof.Rows
set_option maxRecDepth 100000 in
set_option maxHeartbeats 8000000 in
theorem PySem.Challenge.cw_leftalone_s01_answers_holds : PySem.Challenge.rw_leftalone_s01_answers.Holds := by
  w_on; k_headS; (case hw => exact ⟨[.list [.int 2]], by decide +kernel, by decide +kernel⟩)
  k_fillS
  refine LF.walk_seen (r := PySem.Challenge.rw_leftalone_s01_answers) (k := 51) (ps := ["calls"]) (sp := LF.spAns) (by decide +kernel) (by decide +kernel) rfl rfl ⟨rfl, by decide, by decide⟩ (fun w h Y => PySem.W.kIn_of Y) ?F ?S
  case F =>
    intro w mg fa h Y KX G hmg
    refine' LF.all_mk rfl KX G hmg ?TT ?CC ?BB
    case TT =>
      refine' LF.Tops.mk ?t_nothing_done ?t_made ?t_group_of ?t_can_be_undone ?t_traces_of_powers ?t_traces_by_degree ?t_counts_that_stay ?t_monomials ?t_with_more ?t_first_unknown ?t_times_row ?t_polynomial_of ?t_product_of ?t_moved_monomials ?t_sums_of_moved ?t_common_part ?t_told_fraction ?t_shortened ?t_cleared ?t_place_of_one_with ?t_fewest_rows ?t_first_place ?t_is_made_of ?t_told_row ?t_sum_of_moved ?t_is_left_alone ?t_rows_that_stay ?t_polynomials_that_stay ?t_rows_made_of_lower ?t_counts_of_new ?t_is_made_of_lower ?t_is_table ?t_is_polynomial ?t_end_of_call ?t_answer_of ?t_answers ?m_allows_degree ?m_allows_polynomial ?m_begin ?m_table ?m_group ?m_counts ?m_stay ?m_mean ?m_stays ?m_fresh ?m_makes ?m_init ?aC ?mks ?kc ?txt
      (case aC => k_is); (case mks => k_is); (case kc => k_is)
      (case t_nothing_done => (refine' ⟨_, _, ?a, L2.fun_mk ?l ?c ?k⟩; (case a => k_is); (case l => k_is); (case c => k_is); (case k => k_is)))
      (case t_made => (refine' ⟨_, _, ?a, L2.fun_mk ?l ?c ?k⟩; (case a => k_is); (case l => k_is); (case c => k_is); (case k => k_is)))
      (case t_group_of => (refine' ⟨_, _, ?a, L2.fun_mk ?l ?c ?k⟩; (case a => k_is); (case l => k_is); (case c => k_is); (case k => k_is)))
      (case t_can_be_undone => (refine' ⟨_, _, ?a, L2.fun_mk ?l ?c ?k⟩; (case a => k_is); (case l => k_is); (case c => k_is); (case k => k_is)))
      (case t_traces_of_powers => (refine' ⟨_, _, ?a, L2.fun_mk ?l ?c ?k⟩; (case a => k_is); (case l => k_is); (case c => k_is); (case k => k_is)))
      (case t_traces_by_degree => (refine' ⟨_, _, ?a, L2.fun_mk ?l ?c ?k⟩; (case a => k_is); (case l => k_is); (case c => k_is); (case k => k_is)))
      (case t_counts_that_stay => (refine' ⟨_, _, ?a, L2.fun_mk ?l ?c ?k⟩; (case a => k_is); (case l => k_is); (case c => k_is); (case k => k_is)))
      (case t_monomials => (refine' ⟨_, _, ?a, L2.fun_mk ?l ?c ?k⟩; (case a => k_is); (case l => k_is); (case c => k_is); (case k => k_is)))
      (case t_with_more => (refine' ⟨_, _, ?a, L2.fun_mk ?l ?c ?k⟩; (case a => k_is); (case l => k_is); (case c => k_is); (case k => k_is)))
      (case t_first_unknown => (refine' ⟨_, _, ?a, L2.fun_mk ?l ?c ?k⟩; (case a => k_is); (case l => k_is); (case c => k_is); (case k => k_is)))
      (case t_times_row => (refine' ⟨_, _, ?a, L2.fun_mk ?l ?c ?k⟩; (case a => k_is); (case l => k_is); (case c => k_is); (case k => k_is)))
      (case t_polynomial_of => (refine' ⟨_, _, ?a, L2.fun_mk ?l ?c ?k⟩; (case a => k_is); (case l => k_is); (case c => k_is); (case k => k_is)))
      (case t_product_of => (refine' ⟨_, _, ?a, L2.fun_mk ?l ?c ?k⟩; (case a => k_is); (case l => k_is); (case c => k_is); (case k => k_is)))
      (case t_moved_monomials => (refine' ⟨_, _, ?a, L2.fun_mk ?l ?c ?k⟩; (case a => k_is); (case l => k_is); (case c => k_is); (case k => k_is)))
      (case t_sums_of_moved => (refine' ⟨_, _, ?a, L2.fun_mk ?l ?c ?k⟩; (case a => k_is); (case l => k_is); (case c => k_is); (case k => k_is)))
      (case t_common_part => (refine' ⟨_, _, ?a, L2.fun_mk ?l ?c ?k⟩; (case a => k_is); (case l => k_is); (case c => k_is); (case k => k_is)))
      (case t_told_fraction => (refine' ⟨_, _, ?a, L2.fun_mk ?l ?c ?k⟩; (case a => k_is); (case l => k_is); (case c => k_is); (case k => k_is)))
      (case t_shortened => (refine' ⟨_, _, ?a, L2.fun_mk ?l ?c ?k⟩; (case a => k_is); (case l => k_is); (case c => k_is); (case k => k_is)))
      (case t_cleared => (refine' ⟨_, _, ?a, L2.fun_mk ?l ?c ?k⟩; (case a => k_is); (case l => k_is); (case c => k_is); (case k => k_is)))
      (case t_place_of_one_with => (refine' ⟨_, _, ?a, L2.fun_mk ?l ?c ?k⟩; (case a => k_is); (case l => k_is); (case c => k_is); (case k => k_is)))
      (case t_fewest_rows => (refine' ⟨_, _, ?a, L2.fun_mk ?l ?c ?k⟩; (case a => k_is); (case l => k_is); (case c => k_is); (case k => k_is)))
      (case t_first_place => (refine' ⟨_, _, ?a, L2.fun_mk ?l ?c ?k⟩; (case a => k_is); (case l => k_is); (case c => k_is); (case k => k_is)))
      (case t_is_made_of => (refine' ⟨_, _, ?a, L2.fun_mk ?l ?c ?k⟩; (case a => k_is); (case l => k_is); (case c => k_is); (case k => k_is)))
      (case t_told_row => (refine' ⟨_, _, ?a, L2.fun_mk ?l ?c ?k⟩; (case a => k_is); (case l => k_is); (case c => k_is); (case k => k_is)))
      (case t_sum_of_moved => (refine' ⟨_, _, ?a, L2.fun_mk ?l ?c ?k⟩; (case a => k_is); (case l => k_is); (case c => k_is); (case k => k_is)))
      (case t_is_left_alone => (refine' ⟨_, _, ?a, L2.fun_mk ?l ?c ?k⟩; (case a => k_is); (case l => k_is); (case c => k_is); (case k => k_is)))
      (case t_rows_that_stay => (refine' ⟨_, _, ?a, L2.fun_mk ?l ?c ?k⟩; (case a => k_is); (case l => k_is); (case c => k_is); (case k => k_is)))
      (case t_polynomials_that_stay => (refine' ⟨_, _, ?a, L2.fun_mk ?l ?c ?k⟩; (case a => k_is); (case l => k_is); (case c => k_is); (case k => k_is)))
      (case t_rows_made_of_lower => (refine' ⟨_, _, ?a, L2.fun_mk ?l ?c ?k⟩; (case a => k_is); (case l => k_is); (case c => k_is); (case k => k_is)))
      (case t_counts_of_new => (refine' ⟨_, _, ?a, L2.fun_mk ?l ?c ?k⟩; (case a => k_is); (case l => k_is); (case c => k_is); (case k => k_is)))
      (case t_is_made_of_lower => (refine' ⟨_, _, ?a, L2.fun_mk ?l ?c ?k⟩; (case a => k_is); (case l => k_is); (case c => k_is); (case k => k_is)))
      (case t_is_table => (refine' ⟨_, _, ?a, L2.fun_mk ?l ?c ?k⟩; (case a => k_is); (case l => k_is); (case c => k_is); (case k => k_is)))
      (case t_is_polynomial => (refine' ⟨_, _, ?a, L2.fun_mk ?l ?c ?k⟩; (case a => k_is); (case l => k_is); (case c => k_is); (case k => k_is)))
      (case t_end_of_call => (refine' ⟨_, _, ?a, L2.fun_mk ?l ?c ?k⟩; (case a => k_is); (case l => k_is); (case c => k_is); (case k => k_is)))
      (case t_answer_of => (refine' ⟨_, _, ?a, L2.fun_mk ?l ?c ?k⟩; (case a => k_is); (case l => k_is); (case c => k_is); (case k => k_is)))
      (case t_answers => (refine' ⟨_, _, ?a, L2.fun_mk ?l ?c ?k⟩; (case a => k_is); (case l => k_is); (case c => k_is); (case k => k_is)))
      (case m_allows_degree => (refine' ⟨_, _, ⟨?a, ?i⟩, L2.fun_mk ?l ?c ?k⟩; (case a => k_is); (case i => k_is); (case l => k_is); (case c => k_is); (case k => k_is)))
      (case m_allows_polynomial => (refine' ⟨_, _, ⟨?a, ?i⟩, L2.fun_mk ?l ?c ?k⟩; (case a => k_is); (case i => k_is); (case l => k_is); (case c => k_is); (case k => k_is)))
      (case m_begin => (refine' ⟨_, _, ⟨?a, ?i⟩, L2.fun_mk ?l ?c ?k⟩; (case a => k_is); (case i => k_is); (case l => k_is); (case c => k_is); (case k => k_is)))
      (case m_table => (refine' ⟨_, _, ⟨?a, ?i⟩, L2.fun_mk ?l ?c ?k⟩; (case a => k_is); (case i => k_is); (case l => k_is); (case c => k_is); (case k => k_is)))
      (case m_group => (refine' ⟨_, _, ⟨?a, ?i⟩, L2.fun_mk ?l ?c ?k⟩; (case a => k_is); (case i => k_is); (case l => k_is); (case c => k_is); (case k => k_is)))
      (case m_counts => (refine' ⟨_, _, ⟨?a, ?i⟩, L2.fun_mk ?l ?c ?k⟩; (case a => k_is); (case i => k_is); (case l => k_is); (case c => k_is); (case k => k_is)))
      (case m_stay => (refine' ⟨_, _, ⟨?a, ?i⟩, L2.fun_mk ?l ?c ?k⟩; (case a => k_is); (case i => k_is); (case l => k_is); (case c => k_is); (case k => k_is)))
      (case m_mean => (refine' ⟨_, _, ⟨?a, ?i⟩, L2.fun_mk ?l ?c ?k⟩; (case a => k_is); (case i => k_is); (case l => k_is); (case c => k_is); (case k => k_is)))
      (case m_stays => (refine' ⟨_, _, ⟨?a, ?i⟩, L2.fun_mk ?l ?c ?k⟩; (case a => k_is); (case i => k_is); (case l => k_is); (case c => k_is); (case k => k_is)))
      (case m_fresh => (refine' ⟨_, _, ⟨?a, ?i⟩, L2.fun_mk ?l ?c ?k⟩; (case a => k_is); (case i => k_is); (case l => k_is); (case c => k_is); (case k => k_is)))
      (case m_makes => (refine' ⟨_, _, ⟨?a, ?i⟩, L2.fun_mk ?l ?c ?k⟩; (case a => k_is); (case i => k_is); (case l => k_is); (case c => k_is); (case k => k_is)))
      (case m_init => (refine' ⟨_, _, ⟨?a, ?i⟩, L2.fun_mk ?l ?c ?k⟩; (case a => k_is); (case i => k_is); (case l => k_is); (case c => k_is); (case k => k_is)))
      (case txt => refine' ⟨⟨?pg, ?hd, ?po, ?sa⟩, ?nU, ?nT, ?nG⟩; (case pg => k_is); (case hd => k_is); (case po => k_is); (case sa => k_is); (case nU => show PySem.W.findIn _ _ _ = _; k_is); (case nT => show PySem.W.findIn _ _ _ = _; k_is); (case nG => show PySem.W.findIn _ _ _ = _; k_is))
    case CC =>
      refine' LF.Cons.mk ?x0 ?x1 ?x2 ?x3 ?x4 ?x5 ?x6 ?x7 ?x8 ?x9 ?x10 ?x11 ?x12 ?x13 ?x14 ?x15 ?x16 ?x17 ?x18 ?D ?w1 ?w2
      (case x0 => k_is); (case x1 => k_is); (case x2 => k_is); (case x3 => k_is); (case x4 => k_is); (case x5 => k_is); (case x6 => k_is); (case x7 => k_is); (case x8 => k_is); (case x9 => k_is); (case x10 => k_is); (case x11 => k_is); (case x12 => k_is); (case x13 => k_is); (case x14 => k_is); (case x15 => k_is); (case x16 => k_is); (case x17 => k_is); (case x18 => k_is)
      (case D => refine' LF.kdi_mk ?l ?ki ?low; (case l => k_is); (case ki => exact ⟨⟨⟨_, rfl⟩, rfl, _, rfl⟩, ⟨⟨_, rfl⟩, rfl, _, rfl⟩, trivial⟩); (case low => decide))
      (case w1 => refine' LF.sqt_mk ?l ?e1 ?e2 ?sz ?vs; (case l => k_is); (case e1 => rfl); (case e2 => rfl); (case sz => decide); (case vs => exact (.cons ⟨_, rfl⟩ (.cons ⟨_, rfl⟩ (.cons ⟨_, rfl⟩ (.cons ⟨_, rfl⟩ (.cons ⟨_, rfl⟩ (.cons ⟨_, rfl⟩ (.cons ⟨_, rfl⟩ (.cons ⟨_, rfl⟩ (.cons ⟨_, rfl⟩ .nil)))))))))))
      (case w2 => refine' LF.sqt_mk ?l ?e1 ?e2 ?sz ?vs; (case l => k_is); (case e1 => rfl); (case e2 => rfl); (case sz => decide); (case vs => exact (.cons rfl (.cons rfl (.cons rfl (.cons rfl (.cons rfl (.cons rfl (.cons rfl (.cons rfl (.cons rfl .nil)))))))))))
    case BB => refine' ⟨?b0, ?b1, ?b2, ?b3, ?b4, ?b5, ?b6, ?b7, ?b8, ?b9⟩ <;> k_is
  case S =>
    intro K H xs a hO hwi hask hx
    cases hx with
    | cons h1 h2 =>
      cases h2
      cases h1 with
      | lst hs ha =>
        have e := L2.ints_dw a.1 _ ha
        subst e
        have q : ((Codec.inLen 0 990 a.1 && a.1.all (Codec.inInt (-4294967295) 4294967295)) && true) = true := hwi
        rw [Bool.and_eq_true, Bool.and_eq_true] at q
        exact ⟨_, a.1, rfl, hs, hask, fun z hz => Codec.inInt_iff.mp (List.all_eq_true.mp q.1.2 z hz), (Codec.inNat_iff.mp q.1.1).2, fun H' p hp => .lst (L2.SqL.of hp) (L2.dw_ints _)⟩
