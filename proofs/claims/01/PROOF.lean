import PyProof.Rows.All
import Wide.All
import OpenK.AllK
import Wide.FinOn
import PyProof.EqAt
import PyProof.EqKinds
import PyProof.TupleCall
import Open.SpecLaws
import KE.OsGo
import KE.SortKeyHeap
import HandS.ForMost
import HandS.ForSpec
import HandS.IsInst
import HandS.SortKw
import HandS.Rev
import HandS.ExcValue
import PySem.Challenge.RW_handsoutline_s01_answers
set_option Elab.async false
section
/-! The tree of some puts: looks, chains upwards, and that every chain ends. -/
namespace Ho
open Sq28 (Tree Place)
theorem find_filter_of {α : Type} {p q : α → Bool} : ∀ {l : List α}, (∀ x ∈ l, p x = true → q x = true) → (l.filter q).find? p = l.find? p
  | [], _ => rfl
  | a :: l, h => by
    have ih := find_filter_of (l := l) (p := p) (q := q) fun x hx => h x (List.mem_cons_of_mem _ hx)
    by_cases hq : q a = true
    · rw [List.filter_cons_of_pos hq, List.find?_cons, List.find?_cons, ih]
    · rw [List.filter_cons_of_neg hq, ih, List.find?_cons]
      have : p a = false := by
        cases e : p a with
        | false => rfl
        | true => exact absurd (h a List.mem_cons_self e) hq
      rw [this]
theorem find_filter_none {α : Type} {p q : α → Bool} {l : List α} (h : ∀ x ∈ l, q x = true → p x = false) : (l.filter q).find? p = none := by
  rw [List.find?_eq_none]
  intro x hx
  have m := List.mem_filter.mp hx
  rw [h x m.1 m.2]
  exact Bool.false_ne_true
theorem get_put_same {p : Place} {t : Tree} : Sq28.get (Sq28.put p t) p.thing = some p := by
  unfold Sq28.get Sq28.put
  rw [List.find?_append, find_filter_none]
  · simp
  · intro x _ hx
    have := of_decide_eq_true hx
    exact beq_eq_false_iff_ne.mpr (by omega)
theorem get_put_ne {p : Place} {t : Tree} {x : Nat} (h : x ≠ p.thing) : Sq28.get (Sq28.put p t) x = Sq28.get t x := by
  unfold Sq28.get Sq28.put
  have hp : (p.thing == x) = false := beq_eq_false_iff_ne.mpr (fun e => h e.symm)
  rw [List.find?_append, List.find?_cons, hp]
  by_cases c : x < p.thing
  · rw [find_filter_of (q := fun (q : Place) => decide (q.thing < p.thing))]
    · simp only []
      rw [find_filter_none]
      · cases List.find? (fun (p : Place) => p.thing == x) t <;> rfl
      · intro y _ hy
        have := of_decide_eq_true hy
        exact beq_eq_false_iff_ne.mpr (by omega)
    · intro y _ hy
      have := eq_of_beq hy
      exact decide_eq_true (by omega)
  · rw [find_filter_none, find_filter_of]
    · rfl
    · intro y _ hy
      have := eq_of_beq hy
      exact decide_eq_true (by omega)
    · intro y _ hy
      have := of_decide_eq_true hy
      exact beq_eq_false_iff_ne.mpr (by omega)
theorem get_thing {t : Tree} {x : Nat} {p : Place} (h : Sq28.get t x = some p) : p.thing = x := by
  have := List.find?_some h
  exact eq_of_beq this
theorem get_mem {t : Tree} {x : Nat} {p : Place} (h : Sq28.get t x = some p) : p ∈ t := List.mem_of_find?_eq_some h
/-- a chain upwards, whole: from a thing to the last above it -/
inductive Up (t : Tree) : Nat → List Nat → Prop
  | top {x : Nat} : Sq28.get t x = none → Up t x [x]
  | step {x : Nat} {p : Place} {l : List Nat} : Sq28.get t x = some p → Up t p.under l → Up t x (x :: l)
theorem Up.head {t : Tree} {x : Nat} {l : List Nat} (u : Up t x l) : ∃ r, l = x :: r := by
  cases u with
  | top _ => exact ⟨[], rfl⟩
  | step _ _ => exact ⟨_, rfl⟩
theorem Up.det {t : Tree} {x : Nat} {l : List Nat} (u : Up t x l) : ∀ {l' : List Nat}, Up t x l' → l = l' := by
  induction u with
  | top h =>
    intro l' u'
    cases u' with
    | top _ => rfl
    | step h' _ => rw [h] at h'; cases h'
  | step h _ ih =>
    intro l' u'
    cases u' with
    | top h' => rw [h] at h'; cases h'
    | step h' v => rw [h] at h'; cases h'; rw [ih v]
theorem Up.line {t : Tree} {x : Nat} {l : List Nat} (u : Up t x l) : ∀ {f : Nat}, l.length ≤ f → Sq28.line t f x = l := by
  induction u with
  | top h =>
    intro f hf
    cases f with
    | zero => simp at hf
    | succ f => unfold Sq28.line; rw [h]
  | step h _ ih =>
    intro f hf
    cases f with
    | zero => simp at hf
    | succ f =>
      unfold Sq28.line; rw [h]
      have := ih (f := f) (by simp only [List.length_cons] at hf; omega)
      simp only [this]
/-- from each member of a chain the chain goes on -/
theorem Up.at {t : Tree} {x : Nat} {l : List Nat} (u : Up t x l) : ∀ {y : Nat}, y ∈ l → ∃ m, Up t y m ∧ m.length ≤ l.length := by
  induction u with
  | top h =>
    intro y hy
    have e : y = _ := List.mem_singleton.mp hy
    subst e
    exact ⟨_, .top h, Nat.le_refl _⟩
  | step h v ih =>
    intro y hy
    rcases List.mem_cons.mp hy with rfl | hy
    · exact ⟨_, .step h v, Nat.le_refl _⟩
    · obtain ⟨m, hm, hl⟩ := ih hy
      exact ⟨m, hm, by simp only [List.length_cons]; omega⟩
theorem Up.nodup {t : Tree} {x : Nat} {l : List Nat} (u : Up t x l) : l.Nodup := by
  induction u with
  | top h => exact List.nodup_cons.mpr ⟨List.not_mem_nil, List.nodup_nil⟩
  | step h v ih =>
    refine List.nodup_cons.mpr ⟨fun hx => ?_, ih⟩
    obtain ⟨m, hm, hl⟩ := v.at hx
    have e := (Up.step h v).det hm
    rw [← e] at hl
    simp only [List.length_cons] at hl
    omega
theorem length_le_of_sub {α : Type} [DecidableEq α] : ∀ {l m : List α}, l.Nodup → (∀ x ∈ l, x ∈ m) → l.length ≤ m.length
  | [], _, _, _ => Nat.zero_le _
  | a :: l, m, hn, hs => by
    have hn' := List.nodup_cons.mp hn
    have ha := hs a List.mem_cons_self
    have := length_le_of_sub (l := l) (m := m.erase a) hn'.2 fun x hx =>
      (List.mem_erase_of_ne (a := x) (b := a) (fun e => hn'.1 (e ▸ hx))).mpr (hs x (List.mem_cons_of_mem _ hx))
    rw [List.length_erase_of_mem ha] at this
    have pos := List.length_pos_of_mem ha
    simp only [List.length_cons]
    omega
theorem Up.keys {t : Tree} {x : Nat} {l : List Nat} (u : Up t x l) : ∀ y ∈ l.dropLast, y ∈ t.map (·.thing) := by
  induction u with
  | top h => intro y hy; simp at hy
  | step h v ih =>
    intro y hy
    obtain ⟨r, e⟩ := v.head
    subst e
    rw [List.dropLast_cons_of_ne_nil (by simp)] at hy
    rcases List.mem_cons.mp hy with rfl | hy
    · exact List.mem_map.mpr ⟨_, get_mem h, get_thing h⟩
    · exact ih y hy
theorem Up.length_le {t : Tree} {x : Nat} {l : List Nat} (u : Up t x l) : l.length ≤ t.length + 1 := by
  have h1 := length_le_of_sub (List.Nodup.sublist (List.dropLast_sublist l) u.nodup) u.keys
  rw [List.length_dropLast, List.length_map] at h1
  omega
theorem Up.above {t : Tree} {x : Nat} {l : List Nat} (u : Up t x l) : Sq28.above t x = l := u.line u.length_le
def Grounded (t : Tree) : Prop := ∀ x, ∃ l, Up t x l
theorem Grounded.above {t : Tree} (g : Grounded t) (x : Nat) : Up t x (Sq28.above t x) := by
  obtain ⟨l, u⟩ := g x
  rw [u.above]
  exact u
theorem grounded_nil : Grounded [] := fun x => ⟨[x], .top rfl⟩
theorem Up.put {t : Tree} {p : Place} {x : Nat} {l : List Nat} (u : Up t x l) : p.thing ∉ l → Up (Sq28.put p t) x l := by
  induction u with
  | top h =>
    intro n
    exact .top (by rw [get_put_ne (fun e => n (by rw [e]; exact List.mem_cons_self))]; exact h)
  | step h v ih =>
    intro n
    have n' := fun z => n (List.mem_cons_of_mem _ z)
    exact .step (by rw [get_put_ne (fun e => n (by rw [e]; exact List.mem_cons_self))]; exact h) (ih n')
theorem Grounded.put {t : Tree} (g : Grounded t) {p : Place} (h : p.thing ∉ Sq28.above t p.under) : Grounded (Sq28.put p t) := by
  have v : Up (Sq28.put p t) p.thing (p.thing :: Sq28.above t p.under) := .step get_put_same ((g.above p.under).put h)
  intro x
  obtain ⟨l, u⟩ := g x
  induction u with
  | @top x hx =>
    by_cases e : x = p.thing
    · subst e; exact ⟨_, v⟩
    · exact ⟨[x], .top (by rw [get_put_ne e]; exact hx)⟩
  | @step x q l hx _ ih =>
    by_cases e : x = p.thing
    · subst e; exact ⟨_, v⟩
    · obtain ⟨m, hm⟩ := ih
      exact ⟨x :: m, .step (by rw [get_put_ne e]; exact hx) hm⟩
theorem Grounded.done {t : Tree} (g : Grounded t) (d : Sq28.Deed) : Grounded (Sq28.done t d) := by
  unfold Sq28.done
  by_cases c : Sq28.outcome t d = 1
  · rw [if_pos c]
    refine g.put (p := ⟨d.thing, d.under, d.label⟩) fun hm => ?_
    unfold Sq28.outcome at c
    have hc : (Sq28.above t d.under).contains d.thing = true := List.contains_iff_mem.mpr hm
    split at c
    · cases c
    · first | (rw [if_pos hc] at c; cases c) | cases c
  · rw [if_neg c]; exact g
theorem grounded_fold : ∀ (l : List Sq28.Deed) {t : Tree}, Grounded t → Grounded (l.foldl Sq28.done t)
  | [], _, g => g
  | d :: l, _, g => grounded_fold l (g.done d)
theorem grounded_treeOf (l : List Sq36.Deed) : Grounded (Sq36.treeOf l) := grounded_fold _ grounded_nil
end Ho
end

section
/-! What holds; deeds in the order of stamps; spots. -/
namespace Ho
open Sq36
/-! ### What holds -/
def touches (d e : Deed) : Bool := e.of_ == some d.id && decide (e.stamp.count ≤ d.stamp.count + LATE)
def taken (pre : List Deed) (d : Deed) : Option Bool := ((pre.filter (touches d)).getLast?).map Deed.isBack
theorem taken_nil (d : Deed) : taken [] d = none := rfl
theorem taken_snoc (pre : List Deed) (e d : Deed) : taken (pre ++ [e]) d = if touches d e = true then some e.isBack else taken pre d := by
  unfold taken
  rw [List.filter_append]
  by_cases c : touches d e = true
  · rw [if_pos c, List.filter_cons_of_pos c, List.filter_nil, List.getLast?_append]
    rfl
  · rw [if_neg c, List.filter_cons_of_neg c, List.filter_nil, List.append_nil]
theorem holds_taken (l : List Deed) (d : Deed) : holds l d = !((taken l d).getD false) := by
  have e : taken l d = ((l.filter fun e => e.of_ == some d.id && decide (e.stamp.count ≤ d.stamp.count + LATE)).getLast?).map Deed.isBack := rfl
  rw [e]
  unfold holds
  cases (l.filter fun e => e.of_ == some d.id && decide (e.stamp.count ≤ d.stamp.count + LATE)).getLast? with
  | none => rfl
  | some e => rfl
/-! ### Stamps -/
open Sq28 (Stamp)
theorem before_iff {a b : Stamp} : a.before b = true ↔ a.count < b.count ∨ (a.count = b.count ∧ a.hand < b.hand) := by
  unfold Stamp.before
  rw [Bool.or_eq_true, Bool.and_eq_true, decide_eq_true_eq, decide_eq_true_eq, beq_iff_eq]
theorem stamp_ext {a b : Stamp} (h : a.count = b.count) (k : a.hand = b.hand) : a = b := by
  cases a; cases b; cases h; cases k; rfl
theorem before_total {a b : Stamp} (n : a ≠ b) (h : ¬ a.before b = true) : b.before a = true := by
  rw [before_iff] at h ⊢
  by_cases e : a.count = b.count
  · by_cases k : a.hand = b.hand
    · exact absurd (stamp_ext e k) n
    · omega
  · omega
theorem before_trans {a b c : Stamp} (h : a.before b = true) (k : b.before c = true) : a.before c = true := by
  rw [before_iff] at *
  omega
theorem before_irrefl {a : Stamp} : ¬ a.before a = true := by
  rw [before_iff]
  omega
def Rising (l : List Deed) : Prop := l.Pairwise fun a b => a.stamp.before b.stamp = true
theorem learn_perm {d : Deed} : ∀ {l : List Deed}, (∀ e ∈ l, e.stamp ≠ d.stamp) → (learn d l).Perm (d :: l)
  | [], _ => .refl _
  | e :: l, h => by
    unfold learn
    split
    · exact .refl _
    · rw [if_neg (fun z => h e List.mem_cons_self z.symm)]
      exact ((learn_perm fun x hx => h x (List.mem_cons_of_mem _ hx)).cons e).trans (.swap d e l)
theorem learn_rising {d : Deed} : ∀ {l : List Deed}, (∀ e ∈ l, e.stamp ≠ d.stamp) → Rising l → Rising (learn d l)
  | [], _, _ => by simp [learn, Rising]
  | e :: l, h, r => by
    have r' := List.pairwise_cons.mp r
    unfold learn
    split
    · rename_i c
      refine List.pairwise_cons.mpr ⟨fun x hx => ?_, r⟩
      rcases List.mem_cons.mp hx with rfl | hx
      · exact c
      · exact before_trans c (r'.1 x hx)
    · rename_i c
      rw [if_neg (fun z => h e List.mem_cons_self z.symm)]
      have hp := learn_perm (d := d) (l := l) fun x hx => h x (List.mem_cons_of_mem _ hx)
      refine List.pairwise_cons.mpr ⟨fun x hx => ?_, learn_rising (fun x hx => h x (List.mem_cons_of_mem _ hx)) r'.2⟩
      rcases List.mem_cons.mp (hp.mem_iff.mp hx) with rfl | hx
      · exact before_total (fun z => h e List.mem_cons_self z.symm) c
      · exact r'.1 x hx
theorem fold_perm : ∀ {l acc : List Deed}, ((acc ++ l).map (·.stamp)).Nodup → (l.foldl (fun (m : List Deed) d => learn d m) acc).Perm (acc ++ l)
  | [], acc, _ => by rw [List.append_nil]; exact .refl _
  | d :: l, acc, h => by
    have n : ∀ e ∈ acc, e.stamp ≠ d.stamp := by
      intro e he z
      rw [List.map_append, List.map_cons, List.nodup_append] at h
      exact h.2.2 _ (List.mem_map.mpr ⟨e, he, rfl⟩) _ List.mem_cons_self z
    have p := learn_perm n
    have p2 : (learn d acc ++ l).Perm (acc ++ d :: l) := (p.append_right l).trans List.perm_middle.symm
    have h2 : ((learn d acc ++ l).map (·.stamp)).Nodup := (p2.map _).nodup_iff.mpr h
    exact (fold_perm (l := l) (acc := learn d acc) h2).trans p2
theorem fold_rising : ∀ {l acc : List Deed}, ((acc ++ l).map (·.stamp)).Nodup → Rising acc → Rising (l.foldl (fun (m : List Deed) d => learn d m) acc)
  | [], _, _, r => r
  | d :: l, acc, h, r => by
    have n : ∀ e ∈ acc, e.stamp ≠ d.stamp := by
      intro e he z
      rw [List.map_append, List.map_cons, List.nodup_append] at h
      exact h.2.2 _ (List.mem_map.mpr ⟨e, he, rfl⟩) _ List.mem_cons_self z
    have p := learn_perm n
    have p2 : (learn d acc ++ l).Perm (acc ++ d :: l) := (p.append_right l).trans List.perm_middle.symm
    have h2 : ((learn d acc ++ l).map (·.stamp)).Nodup := (p2.map _).nodup_iff.mpr h
    exact fold_rising (l := l) (acc := learn d acc) h2 (learn_rising n r)
theorem rising_unique : ∀ {l m : List Deed}, l.Perm m → Rising l → Rising m → l = m
  | [], m, p, _, _ => p.nil_eq
  | a :: l, [], p, _, _ => absurd p.length_eq (by simp)
  | a :: l, b :: m, p, hl, hm => by
    have hl' := List.pairwise_cons.mp hl
    have hm' := List.pairwise_cons.mp hm
    have e : a = b := by
      have h1 : a ∈ b :: m := p.mem_iff.mp List.mem_cons_self
      have h2 : b ∈ a :: l := p.mem_iff.mpr List.mem_cons_self
      rcases List.mem_cons.mp h1 with e | h1
      · exact e
      · rcases List.mem_cons.mp h2 with e | h2
        · exact e.symm
        · exact absurd (before_trans (hl'.1 b h2) (hm'.1 a h1)) before_irrefl
    subst e
    rw [rising_unique (List.Perm.cons_inv p) hl'.2 hm'.2]
theorem fold_eq {xs ys : List Deed} (hn : (xs.map (·.stamp)).Nodup) (p : ys.Perm xs) (r : Rising ys) : xs.foldl (fun (m : List Deed) d => learn d m) [] = ys :=
  rising_unique ((fold_perm (acc := []) (by rw [List.nil_append]; exact hn)).trans (by rw [List.nil_append]; exact p.symm)) (fold_rising (acc := []) (by rw [List.nil_append]; exact hn) List.Pairwise.nil) r
theorem Rising.nodup {l : List Deed} (r : Rising l) : (l.map (·.stamp)).Nodup := by
  unfold Rising at r
  rw [List.nodup_iff_pairwise_ne, List.pairwise_map]
  refine List.Pairwise.imp (R := fun (a b : Deed) => a.stamp.before b.stamp = true) ?_ r
  intro a b h e
  rw [e] at h
  exact before_irrefl h
end Ho
end

section
/-! Spots: what is around one, without the number that sees to an end. -/
namespace Ho
open Sq36
def isAt (p : Nat) (o : Option Nat) (right : Bool) (d : Deed) : Bool := match d.act with
  | .put _ u s r => u == p && (s == o && r == right)
  | _ => false
theorem spotsAt_eq (l : List Deed) (p : Nat) (o : Option Nat) (r : Bool) : spotsAt l p o r = l.filter (isAt p o r) := rfl
/-- a spot is made at one that stands before it -/
def Ordered (l : List Deed) : Prop := ∀ pre e post, l = pre ++ e :: post → ∀ p s r, isAt p (some s) r e = true → ∀ d ∈ e :: post, d.id ≠ s
theorem Ordered.pre_nil {l pre post : List Deed} {d : Deed} (O : Ordered l) (e : l = pre ++ d :: post) (p : Nat) (r : Bool) : (pre ++ [d]).filter (isAt p (some d.id) r) = [] := by
  rw [List.filter_eq_nil_iff]
  intro c hc h
  rcases List.mem_append.mp hc with hc | hc
  · obtain ⟨a, b, rfl⟩ := List.append_of_mem hc
    refine O a c (b ++ d :: post) (by rw [e]; simp) p d.id r h d ?_ rfl
    exact List.mem_cons_of_mem _ (List.mem_append.mpr (.inr List.mem_cons_self))
  · have := List.mem_singleton.mp hc
    subst this
    exact O pre c post e p c.id r h c List.mem_cons_self rfl
theorem Ordered.after {l pre post : List Deed} {d : Deed} (O : Ordered l) (e : l = pre ++ d :: post) (p : Nat) (r : Bool) : spotsAt l p (some d.id) r = spotsAt post p (some d.id) r := by
  have e2 : l = (pre ++ [d]) ++ post := by rw [e]; simp
  rw [spotsAt_eq, spotsAt_eq, e2, List.filter_append, O.pre_nil e p r, List.nil_append]
theorem flatMap_congr' {α β : Type} {f g : α → List β} : ∀ {l : List α}, (∀ x ∈ l, f x = g x) → l.flatMap f = l.flatMap g
  | [], _ => rfl
  | a :: l, h => by
    rw [List.flatMap_cons, List.flatMap_cons, h a List.mem_cons_self, flatMap_congr' fun x hx => h x (List.mem_cons_of_mem _ hx)]
theorem around_fuel {l : List Deed} (O : Ordered l) (p : Nat) : ∀ (n : Nat) (pre post : List Deed) (d : Deed), l = pre ++ d :: post → post.length < n → ∀ f g, post.length < f → post.length < g → around l p f d = around l p g d
  | 0, _, _, _, _, h, _, _, _, _ => absurd h (Nat.not_lt_zero _)
  | n + 1, pre, post, d, e, h, 0, _, hf, _ => absurd hf (Nat.not_lt_zero _)
  | n + 1, pre, post, d, e, h, f + 1, 0, _, hg => absurd hg (Nat.not_lt_zero _)
  | n + 1, pre, post, d, e, h, f + 1, g + 1, hf, hg => by
    have key : ∀ r, (spotsAt l p (some d.id) r).flatMap (around l p f) = (spotsAt l p (some d.id) r).flatMap (around l p g) := by
      intro r
      refine flatMap_congr' fun c hc => ?_
      rw [O.after e] at hc
      obtain ⟨a, b, hb⟩ := List.append_of_mem (List.mem_filter.mp hc).1
      have hl : b.length < post.length := by rw [hb]; simp only [List.length_append, List.length_cons]; omega
      exact around_fuel O p n (pre ++ d :: a) b c (by rw [e, hb]; simp) (by omega) f g (by omega) (by omega)
    unfold around
    rw [key false, key true]
def whole (l : List Deed) (p : Nat) (d : Deed) : List Deed := around l p (l.length + 1) d
theorem whole_eq {l pre post : List Deed} {d : Deed} (O : Ordered l) (p : Nat) (e : l = pre ++ d :: post) :
    whole l p d = (spotsAt post p (some d.id) false).flatMap (whole l p) ++ (d :: (spotsAt post p (some d.id) true).flatMap (whole l p)) := by
  have key : ∀ r, (spotsAt post p (some d.id) r).flatMap (around l p l.length) = (spotsAt post p (some d.id) r).flatMap (whole l p) := by
    intro r
    refine flatMap_congr' fun c hc => ?_
    obtain ⟨a, b, hb⟩ := List.append_of_mem (List.mem_filter.mp hc).1
    have hl : b.length < l.length := by rw [e, hb]; simp only [List.length_append, List.length_cons]; omega
    exact around_fuel O p (b.length + 1) (pre ++ d :: a) b c (by rw [e, hb]; simp) (by omega) _ _ hl (by omega)
  rw [← key false, ← key true, ← O.after e, ← O.after e]
  rfl
theorem spots_whole (l : List Deed) (p : Nat) : spots l p = (spotsAt l p none true).flatMap (whole l p) := rfl
/-- the last spot of all around one has nothing to its right -/
theorem whole_last {l : List Deed} (O : Ordered l) (p : Nat) : ∀ (n : Nat) (pre post : List Deed) (d : Deed), l = pre ++ d :: post → post.length < n → ∃ x, (whole l p d).getLast? = some x ∧ spotsAt l p (some x.id) true = []
  | 0, _, _, _, _, h => absurd h (Nat.not_lt_zero _)
  | n + 1, pre, post, d, e, h => by
    rw [whole_eq O p e]
    rcases List.eq_nil_or_concat (spotsAt post p (some d.id) true) with z | ⟨m, c, z⟩
    · rw [z]
      refine ⟨d, ?_, by rw [O.after e, z]⟩
      simp
    · have hc : c ∈ post := (List.mem_filter.mp (show c ∈ spotsAt post p (some d.id) true by rw [z]; simp)).1
      obtain ⟨a, b, hb⟩ := List.append_of_mem hc
      have hl : b.length < post.length := by rw [hb]; simp only [List.length_append, List.length_cons]; omega
      obtain ⟨x, hx, hn⟩ := whole_last O p n (pre ++ d :: a) b c (by rw [e, hb]; simp) (by omega)
      refine ⟨x, ?_, hn⟩
      rw [z, List.concat_eq_append, List.flatMap_append]
      simp only [List.flatMap_cons, List.flatMap_nil, List.append_nil, List.getLast?_append, List.getLast?_cons, hx]
      simp
theorem mem_whole_self {l : List Deed} {p : Nat} {d : Deed} : d ∈ whole l p d := by
  unfold whole around
  simp
theorem flat_last {α β : Type} {f : α → List β} {P : β → Prop} : ∀ {l : List α}, (∀ a ∈ l, ∃ x, (f a).getLast? = some x ∧ P x) → ∀ x, (l.flatMap f).getLast? = some x → P x
  | [], _, x, h => by simp at h
  | a :: l, hf, x, h => by
    rw [List.flatMap_cons, List.getLast?_append] at h
    cases e : (l.flatMap f).getLast? with
    | some y =>
      rw [e] at h
      cases h
      exact flat_last (fun a ha => hf a (List.mem_cons_of_mem _ ha)) _ e
    | none =>
      rw [e] at h
      obtain ⟨y, hy, py⟩ := hf a List.mem_cons_self
      rw [hy] at h
      cases h
      exact py
theorem spots_last {l : List Deed} (O : Ordered l) (p : Nat) {x : Deed} (h : (spots l p).getLast? = some x) : spotsAt l p (some x.id) true = [] := by
  rw [spots_whole] at h
  refine flat_last (P := fun x => spotsAt l p (some x.id) true = []) (fun c hc => ?_) x h
  obtain ⟨a, b, hb⟩ := List.append_of_mem (List.mem_filter.mp hc).1
  exact whole_last O p (b.length + 1) a b c hb (by omega)
/-- behind a spot that has something to its right another spot comes -/
theorem behind_some {l : List Deed} (O : Ordered l) {p s : Nat} (hs : ∃ d ∈ spots l p, d.id = s) (hr : (spotsAt l p (some s) true).isEmpty = false) :
    ∃ a d c b, spots l p = a ++ d :: c :: b ∧ (∀ e ∈ a, e.id ≠ s) ∧ d.id = s ∧ behind l p (some s) = (some c.id, false) := by
  obtain ⟨d0, hd0, e0⟩ := hs
  have split : ∀ (m : List Deed), (∃ d ∈ m, d.id = s) → ∃ a d b, m = a ++ d :: b ∧ (∀ e ∈ a, e.id ≠ s) ∧ d.id = s := by
    intro m
    induction m with
    | nil => rintro ⟨d, hd, _⟩; cases hd
    | cons x m ih =>
      intro hm
      by_cases c : x.id = s
      · exact ⟨[], x, m, rfl, (fun e he => by cases he), c⟩
      · obtain ⟨d, hd, hds⟩ := hm
        rcases List.mem_cons.mp hd with rfl | hd
        · exact absurd hds c
        · obtain ⟨a, d', b, e, ha, hd'⟩ := ih ⟨d, hd, hds⟩
          refine ⟨x :: a, d', b, by rw [e]; rfl, fun y hy => ?_, hd'⟩
          rcases List.mem_cons.mp hy with rfl | hy
          · exact c
          · exact ha y hy
  obtain ⟨a, d, b, e, ha, hd⟩ := split (spots l p) ⟨d0, hd0, e0⟩
  have dw : (spots l p).dropWhile (fun (d : Deed) => d.id != s) = d :: b := by
    rw [e, List.dropWhile_append]
    have dn : ∀ (m : List Deed), (∀ e ∈ m, e.id ≠ s) → m.dropWhile (fun (d : Deed) => d.id != s) = [] := by
      intro m
      induction m with
      | nil => intro _; rfl
      | cons x m ih =>
        intro hm
        have hx : (x.id != s) = true := bne_iff_ne.mpr (hm x List.mem_cons_self)
        rw [List.dropWhile_cons, if_pos hx]
        exact ih fun e he => hm e (List.mem_cons_of_mem _ he)
    rw [dn a ha]
    simp [hd]
  cases b with
  | nil =>
    exfalso
    have hl : (spots l p).getLast? = some d := by rw [e]; simp
    have := spots_last O p hl
    rw [hd] at this
    rw [this] at hr
    cases hr
  | cons c b =>
    refine ⟨a, d, c, b, e, ha, hd, ?_⟩
    unfold behind
    rw [hr]
    show (match List.drop 1 (List.dropWhile (fun (d : Deed) => d.id != s) (spots l p)) with
      | [] => (some s, true)
      | d :: _ => (some d.id, false)) = (some c.id, false)
    rw [dw]
    rfl
theorem behind_none {l : List Deed} {p : Nat} (hr : (spotsAt l p none true).isEmpty = false) :
    ∃ c b, spots l p = c :: b ∧ behind l p none = (some c.id, false) := by
  cases e : spots l p with
  | nil =>
    exfalso
    cases z : spotsAt l p none true with
    | nil => rw [z] at hr; cases hr
    | cons x m =>
      have : x ∈ spots l p := by
        rw [spots_whole, z, List.flatMap_cons]
        exact List.mem_append.mpr (.inl mem_whole_self)
      rw [e] at this
      cases this
  | cons c b =>
    refine ⟨c, b, rfl, ?_⟩
    unfold behind
    rw [hr, e]
    rfl
theorem behind_right {l : List Deed} {p : Nat} {o : Option Nat} (hr : (spotsAt l p o true).isEmpty = true) : behind l p o = (o, true) := by
  unfold behind
  rw [hr]
  rfl
/-! ### All spots are puts under it, that stand in the list -/
theorem around_mem {l : List Deed} {p : Nat} : ∀ (f : Nat) (d : Deed), d ∈ l → (∃ o r, isAt p o r d = true) → ∀ x ∈ around l p f d, x ∈ l ∧ ∃ o r, isAt p o r x = true
  | 0, _, _, _, x, h => by cases h
  | f + 1, d, hd, hp, x, h => by
    unfold around at h
    rcases List.mem_append.mp h with h | h
    · obtain ⟨c, hc, hx⟩ := List.mem_flatMap.mp h
      have m := List.mem_filter.mp hc
      exact around_mem f c m.1 ⟨_, _, m.2⟩ x hx
    · rcases List.mem_cons.mp h with rfl | h
      · exact ⟨hd, hp⟩
      · obtain ⟨c, hc, hx⟩ := List.mem_flatMap.mp h
        have m := List.mem_filter.mp hc
        exact around_mem f c m.1 ⟨_, _, m.2⟩ x hx
theorem spots_mem {l : List Deed} {p : Nat} {x : Deed} (h : x ∈ spots l p) : x ∈ l ∧ ∃ o r, isAt p o r x = true := by
  rw [spots_whole] at h
  obtain ⟨c, hc, hx⟩ := List.mem_flatMap.mp h
  have m := List.mem_filter.mp hc
  exact around_mem _ c m.1 ⟨_, _, m.2⟩ x hx
/-! ### The puts under it alone -/
def isPut (p : Nat) (d : Deed) : Bool := match d.act with
  | .put _ u _ _ => u == p
  | _ => false
theorem isPut_of {p : Nat} {o : Option Nat} {r : Bool} {d : Deed} (h : isAt p o r d = true) : isPut p d = true := by
  unfold isAt at h
  unfold isPut
  cases e : d.act <;> rw [e] at h <;> simp only [] at h ⊢
  · rw [Bool.and_eq_true] at h; exact h.1
  all_goals cases h
theorem spotsAt_puts (l : List Deed) (p : Nat) (o : Option Nat) (r : Bool) : spotsAt (l.filter (isPut p)) p o r = spotsAt l p o r := by
  rw [spotsAt_eq, spotsAt_eq, List.filter_filter]
  congr 1
  funext d
  cases c : isAt p o r d with
  | false => rfl
  | true => rw [isPut_of c]; rfl
theorem around_puts (l : List Deed) (p : Nat) : ∀ (f : Nat) (d : Deed), around (l.filter (isPut p)) p f d = around l p f d
  | 0, _ => rfl
  | f + 1, d => by
    unfold around
    rw [spotsAt_puts, spotsAt_puts]
    have : around (l.filter (isPut p)) p f = around l p f := funext (around_puts l p f)
    rw [this]
theorem Ordered.sublist {l m : List Deed} (s : m.Sublist l) (O : Ordered l) : Ordered m := by
  induction s with
  | slnil => exact O
  | cons a s ih =>
    refine ih fun pre e post h => O (a :: pre) e post (by rw [h]; rfl)
  | @cons_cons m l a s ih =>
    have ih := ih fun pre e post h => O (a :: pre) e post (by rw [h]; rfl)
    intro pre e post h p t r hp d hd
    cases pre with
    | nil =>
      injection h with h1 h2
      subst h1
      subst h2
      refine O [] a l rfl p t r hp d ?_
      rcases List.mem_cons.mp hd with rfl | hd
      · exact List.mem_cons_self
      · exact List.mem_cons_of_mem _ (s.subset hd)
    | cons b pre =>
      injection h with h1 h2
      exact ih pre e post h2 p t r hp d hd
theorem Ordered.puts {l : List Deed} (O : Ordered l) (p : Nat) : Ordered (l.filter (isPut p)) := O.sublist List.filter_sublist
theorem spots_puts {l : List Deed} (O : Ordered l) (p : Nat) : spots l p = (spotsAt (l.filter (isPut p)) p none true).flatMap (whole (l.filter (isPut p)) p) := by
  rw [spots_whole, spotsAt_puts]
  refine flatMap_congr' fun c hc => ?_
  have m := List.mem_filter.mp hc
  have mq : c ∈ l.filter (isPut p) := List.mem_filter.mpr ⟨m.1, isPut_of m.2⟩
  obtain ⟨a, b, hb⟩ := List.append_of_mem mq
  have hlen : (l.filter (isPut p)).length ≤ l.length := List.length_filter_le _ _
  have e1 : whole l p c = around (l.filter (isPut p)) p (l.length + 1) c := (around_puts l p _ c).symm
  rw [e1]
  have hbl : b.length < (l.filter (isPut p)).length := by rw [hb]; simp only [List.length_append, List.length_cons]; omega
  exact around_fuel (O.puts p) p (b.length + 1) a b c hb (by omega) _ _ (by omega) (by omega)
/-- what lies to a side of each spot, of the last puts -/
def sides (q : List Deed) (p : Nat) (post : List Deed) (o : Option Nat) (r : Bool) : List Deed := (spotsAt post p o r).flatMap (whole q p)
theorem sides_nil (q : List Deed) (p : Nat) (o : Option Nat) (r : Bool) : sides q p [] o r = [] := rfl
theorem sides_cons (q : List Deed) (p : Nat) (e : Deed) (post : List Deed) (o : Option Nat) (r : Bool) :
    sides q p (e :: post) o r = if isAt p o r e = true then whole q p e ++ sides q p post o r else sides q p post o r := by
  unfold sides
  rw [spotsAt_eq, spotsAt_eq]
  by_cases c : isAt p o r e = true
  · rw [if_pos c, List.filter_cons_of_pos c, List.flatMap_cons]
  · rw [if_neg c, List.filter_cons_of_neg c]
theorem whole_sides {q pre post : List Deed} {d : Deed} (O : Ordered q) (p : Nat) (e : q = pre ++ d :: post) :
    whole q p d = sides q p post (some d.id) false ++ [d] ++ sides q p post (some d.id) true := by
  rw [whole_eq O p e]
  unfold sides
  simp
end Ho
end

section
/-! What holds of every house that calls lead to. -/
set_option autoImplicit false
namespace Ho
open Sq36
/-- how many deeds of a hand -/
def cnt (all : List Deed) (k : Nat) : Nat := (all.filter fun d => d.stamp.hand == k).length
theorem cnt_append (a b : List Deed) (k : Nat) : cnt (a ++ b) k = cnt a k + cnt b k := by
  unfold cnt
  rw [List.filter_append, List.length_append]
theorem cnt_one (d : Deed) (k : Nat) : cnt [d] k = if d.stamp.hand = k then 1 else 0 := by
  unfold cnt
  by_cases e : d.stamp.hand = k
  · simp [e]
  · simp [e]
theorem cnt_cons (d : Deed) (l : List Deed) (k : Nat) : cnt (d :: l) k = cnt [d] k + cnt l k := cnt_append [d] l k
structure DeedsOk (n : Nat) (all : List Deed) : Prop where
  id : ∀ (i : Nat) (d : Deed), all[i]? = some d → d.id = i
  hand : ∀ d ∈ all, d.stamp.hand < n
  num : ∀ (pre : List Deed) (d : Deed) (post : List Deed), all = pre ++ d :: post → d.n = cnt pre d.stamp.hand + 1
  mono : all.Pairwise fun d e => d.stamp.hand = e.stamp.hand → d.stamp.count < e.stamp.count
  target : ∀ (pre : List Deed) (d : Deed) (post : List Deed), all = pre ++ d :: post → ∀ i, d.of_ = some i → ∃ e ∈ pre, e.id = i ∧ e.stamp.hand = d.stamp.hand ∧ e.of_ = none
  spot : ∀ (pre : List Deed) (d : Deed) (post : List Deed), all = pre ++ d :: post → ∀ p s r, isAt p (some s) r d = true → ∃ e ∈ pre, e.id = s ∧ e.stamp.count < d.stamp.count
  after : ∀ d ∈ all, d.after.length = n
theorem DeedsOk.nil (n : Nat) : DeedsOk n [] where
  id := fun i d h => by simp at h
  hand := fun d h => by cases h
  num := fun pre d post h => by simp at h
  mono := List.Pairwise.nil
  target := fun pre d post h => by simp at h
  spot := fun pre d post h => by simp at h
  after := fun d h => by cases h
section
variable {n : Nat} {all : List Deed}
theorem DeedsOk.uniq (o : DeedsOk n all) {d e : Deed} (hd : d ∈ all) (he : e ∈ all) (h : d.id = e.id) : d = e := by
  obtain ⟨i, hi⟩ := List.getElem?_of_mem hd
  obtain ⟨j, hj⟩ := List.getElem?_of_mem he
  have a := o.id i d hi
  have b := o.id j e hj
  have : i = j := by omega
  subst this
  rw [hi] at hj
  exact Option.some.inj hj
theorem DeedsOk.ids (o : DeedsOk n all) : (all.map (·.id)).Nodup := by
  rw [List.nodup_iff_pairwise_ne, List.pairwise_map, List.pairwise_iff_getElem]
  intro i j hi hj hij
  have a := o.id i _ (List.getElem?_eq_getElem hi)
  have b := o.id j _ (List.getElem?_eq_getElem hj)
  omega
theorem DeedsOk.stamps (o : DeedsOk n all) : (all.map (·.stamp)).Nodup := by
  rw [List.nodup_iff_pairwise_ne, List.pairwise_map]
  refine List.Pairwise.imp ?_ o.mono
  intro a b h e
  have := h (by rw [e])
  rw [e] at this
  omega
theorem DeedsOk.num_le (o : DeedsOk n all) {d : Deed} (hd : d ∈ all) : d.n ≤ cnt all d.stamp.hand := by
  obtain ⟨a, b, e⟩ := List.append_of_mem hd
  rw [o.num a d b e, e, cnt_append, cnt_cons, cnt_one, if_pos rfl]
  omega
theorem DeedsOk.num_pos (o : DeedsOk n all) {d : Deed} (hd : d ∈ all) : 1 ≤ d.n := by
  obtain ⟨a, b, e⟩ := List.append_of_mem hd
  rw [o.num a d b e]
  omega
/-- one more deed -/
theorem split_snoc {α : Type} {l pre post : List α} {x d : α} (h : l ++ [x] = pre ++ d :: post) : (post = [] ∧ pre = l ∧ d = x) ∨ ∃ p', post = p' ++ [x] ∧ l = pre ++ d :: p' := by
  rcases List.eq_nil_or_concat post with z | ⟨p', y, z⟩
  · subst z
    have := List.append_inj' h rfl
    injection this.2 with h1
    exact .inl ⟨rfl, this.1.symm, h1.symm⟩
  · rw [List.concat_eq_append] at z
    subst z
    have h' : l ++ [x] = (pre ++ d :: p') ++ [y] := by rw [h]; simp
    have := List.append_inj' h' rfl
    injection this.2 with h1
    exact .inr ⟨p', by rw [h1], this.1⟩
theorem DeedsOk.snoc (o : DeedsOk n all) {d : Deed} (hid : d.id = all.length) (hh : d.stamp.hand < n) (hn : d.n = cnt all d.stamp.hand + 1)
    (hc : ∀ e ∈ all, e.stamp.hand = d.stamp.hand → e.stamp.count < d.stamp.count) (ha : d.after.length = n)
    (ht : ∀ i, d.of_ = some i → ∃ e ∈ all, e.id = i ∧ e.stamp.hand = d.stamp.hand ∧ e.of_ = none)
    (hs : ∀ p s r, isAt p (some s) r d = true → ∃ e ∈ all, e.id = s ∧ e.stamp.count < d.stamp.count) : DeedsOk n (all ++ [d]) where
  id := fun i e h => by
    rw [List.getElem?_append] at h
    split at h
    · exact o.id i e h
    · rename_i c
      have : i - all.length = 0 := by
        cases z : i - all.length with
        | zero => rfl
        | succ m => rw [z] at h; simp at h
      rw [this] at h
      cases h
      omega
  hand := fun e h => by
    rcases List.mem_append.mp h with h | h
    · exact o.hand e h
    · rw [List.mem_singleton.mp h]; exact hh
  num := fun pre e post h => by
    rcases split_snoc h with ⟨_, rfl, rfl⟩ | ⟨p', _, h'⟩
    · exact hn
    · exact o.num pre e p' h'
  mono := by
    rw [List.pairwise_append]
    refine ⟨o.mono, List.pairwise_singleton _ _, fun a ha b hb => ?_⟩
    rw [List.mem_singleton.mp hb]
    exact hc a ha
  target := fun pre e post h => by
    rcases split_snoc h with ⟨_, rfl, rfl⟩ | ⟨p', _, h'⟩
    · exact ht
    · exact o.target pre e p' h'
  spot := fun pre e post h => by
    rcases split_snoc h with ⟨_, rfl, rfl⟩ | ⟨p', _, h'⟩
    · exact hs
    · exact o.spot pre e p' h'
  after := fun e h => by
    rcases List.mem_append.mp h with h | h
    · exact o.after e h
    · rw [List.mem_singleton.mp h]; exact ha
end
/-- counts that tell of deeds that were done -/
structure CountsOk (n : Nat) (all : List Deed) (c : Counts) (clock : Nat) : Prop where
  len : c.length = n
  le : ∀ j, at_ c j ≤ cnt all j
  clock : ∀ d ∈ all, was c d = true → d.stamp.count ≤ clock
structure DeskOk (n : Nat) (all : List Deed) (k : Nat) (x : Desk) : Prop where
  has : CountsOk n all x.has x.clock
  own : at_ x.has k = cnt all k
  sure : x.sure.length = n
  sures : ∀ c ∈ x.sure, c.length = n
  heard : x.heard.length = n
structure LetterOk (n : Nat) (all : List Deed) (m : Letter) : Prop where
  src : m.from_ < n
  dst : m.to < n
  ne : m.from_ ≠ m.to
  has : CountsOk n all m.has m.clock
structure Ok (h : House) : Prop where
  lo : 1 ≤ h.hands
  hi : h.hands ≤ 6
  desks : h.desks.length = h.hands
  deeds : DeedsOk h.hands h.all
  full : h.all.length ≤ 100
  desk : ∀ k x, h.desks[k]? = some x → DeskOk h.hands h.all k x
  letters : ∀ m ∈ h.letters, LetterOk h.hands h.all m
  lfull : h.letters.length ≤ 200
  things : 2 ≤ h.things
theorem at_replicate (n j : Nat) : at_ (List.replicate n 0) j = 0 := by
  unfold at_
  rw [List.getElem?_replicate]
  split <;> rfl
theorem countsOk_zero (n : Nat) : CountsOk n [] (List.replicate n 0) 0 := ⟨List.length_replicate .., fun j => by rw [at_replicate]; exact Nat.zero_le _, fun d h => by cases h⟩
theorem ok_new {n : Nat} (h1 : 1 ≤ n) (h6 : n ≤ 6) : Ok (new n) where
  lo := h1
  hi := h6
  desks := List.length_replicate ..
  deeds := DeedsOk.nil n
  full := Nat.zero_le _
  desk := fun k x h => by
    have e : (List.replicate n (desk0 n))[k]? = some x := h
    rw [List.getElem?_replicate] at e
    split at e
    · cases e
      exact ⟨countsOk_zero n, by show at_ (List.replicate n 0) k = 0; exact at_replicate n k, List.length_replicate .., fun c hc => by rw [List.eq_of_mem_replicate hc]; exact List.length_replicate .., List.length_replicate ..⟩
    · cases e
  letters := fun m h => by cases h
  lfull := Nat.zero_le _
  things := Nat.le_refl _
theorem desk_of {h : House} {k : Nat} {x : Desk} (e : h.desks[k]? = some x) : h.desk k = x := by
  unfold House.desk
  rw [e]
  rfl
theorem Ok.get {h : House} (o : Ok h) {k : Nat} (hk : k < h.hands) : h.desks[k]? = some (h.desk k) := by
  have : k < h.desks.length := by rw [o.desks]; exact hk
  have e := List.getElem?_eq_getElem this
  rw [e, desk_of e]
theorem Ok.deskOk {h : House} (o : Ok h) {k : Nat} (hk : k < h.hands) : DeskOk h.hands h.all k (h.desk k) := o.desk k _ (o.get hk)
/-! ### What a desk has had -/
theorem Ok.had_perm {h : House} (o : Ok h) (k : Nat) : (h.had k).Perm (h.all.filter (was (h.desk k).has)) := by
  have n : ((h.all.filter (was (h.desk k).has)).map (·.stamp)).Nodup := List.Nodup.sublist (List.Sublist.map _ List.filter_sublist) o.deeds.stamps
  have := fold_perm (l := h.all.filter (was (h.desk k).has)) (acc := []) (by rw [List.nil_append]; exact n)
  rw [List.nil_append] at this
  exact this
theorem Ok.had_rising {h : House} (o : Ok h) (k : Nat) : Rising (h.had k) := by
  have n : ((h.all.filter (was (h.desk k).has)).map (·.stamp)).Nodup := List.Nodup.sublist (List.Sublist.map _ List.filter_sublist) o.deeds.stamps
  exact fold_rising (l := h.all.filter (was (h.desk k).has)) (acc := []) (by rw [List.nil_append]; exact n) List.Pairwise.nil
theorem Ok.had_eq {h : House} (o : Ok h) {k : Nat} {ys : List Deed} (p : ys.Perm (h.all.filter (was (h.desk k).has))) (r : Rising ys) : h.had k = ys :=
  rising_unique ((o.had_perm k).trans p.symm) (o.had_rising k) r
theorem Ok.mem_had {h : House} (o : Ok h) {k : Nat} {d : Deed} : d ∈ h.had k ↔ d ∈ h.all ∧ was (h.desk k).has d = true := by
  rw [(o.had_perm k).mem_iff, List.mem_filter]
theorem Ok.had_len {h : House} (o : Ok h) (k : Nat) : (h.had k).length ≤ 100 := by
  rw [(o.had_perm k).length_eq]
  exact Nat.le_trans (List.length_filter_le _ _) o.full
theorem Ok.had_count {h : House} (o : Ok h) {k : Nat} (hk : k < h.hands) {d : Deed} (hd : d ∈ h.had k) : d.stamp.count ≤ (h.desk k).clock := by
  have m := o.mem_had.mp hd
  exact (o.deskOk hk).has.clock d m.1 m.2
theorem Ok.had_ids {h : House} (o : Ok h) (k : Nat) : ((h.had k).map (·.id)).Nodup := by
  have n : ((h.all.filter (was (h.desk k).has)).map (·.id)).Nodup := List.Nodup.sublist (List.Sublist.map _ List.filter_sublist) o.deeds.ids
  exact ((o.had_perm k).map _).nodup_iff.mpr n
theorem Rising.pre {pre post : List Deed} {e d : Deed} (r : Rising (pre ++ e :: post)) (hd : d ∈ pre ++ e :: post) (b : d.stamp.before e.stamp = true) : d ∈ pre := by
  rcases List.mem_append.mp hd with h | h
  · exact h
  · exfalso
    have r2 := (List.pairwise_append.mp r).2.1
    have r3 := List.pairwise_cons.mp r2
    rcases List.mem_cons.mp h with rfl | h
    · exact before_irrefl b
    · exact before_irrefl (before_trans b (r3.1 d h))
/-- what is needed of a list of deeds, by stamps -/
structure Wf (l : List Deed) : Prop where
  rising : Rising l
  ids : (l.map (·.id)).Nodup
  ordered : Ordered l
  target : ∀ pre e post, l = pre ++ e :: post → ∀ i, e.of_ = some i → ∃ d ∈ pre, d.id = i ∧ d.of_ = none ∧ d.stamp.hand = e.stamp.hand
  len : l.length ≤ 100
theorem Wf.uniq {l : List Deed} (w : Wf l) {d e : Deed} (hd : d ∈ l) (he : e ∈ l) (h : d.id = e.id) : d = e := by
  obtain ⟨i, hi⟩ := List.getElem?_of_mem hd
  obtain ⟨j, hj⟩ := List.getElem?_of_mem he
  have n := w.ids
  rw [List.nodup_iff_pairwise_ne, List.pairwise_map, List.pairwise_iff_getElem] at n
  obtain ⟨li, ei⟩ := List.getElem?_eq_some_iff.mp hi
  obtain ⟨lj, ej⟩ := List.getElem?_eq_some_iff.mp hj
  rcases Nat.lt_trichotomy i j with c | c | c
  · exact absurd (by rw [ei, ej]; exact h) (n i j li lj c)
  · subst c
    rw [hi] at hj
    exact Option.some.inj hj
  · exact absurd (by rw [ei, ej]; exact h.symm) (n j i lj li c)
theorem Ok.wf {h : House} (o : Ok h) (k : Nat) : Wf (h.had k) where
  rising := o.had_rising k
  ids := o.had_ids k
  len := o.had_len k
  ordered := by
    intro pre e post he p s r hp d hd hds
    have r := o.had_rising k
    rw [he] at r
    have me : e ∈ h.all := (o.mem_had.mp (show e ∈ h.had k by rw [he]; simp)).1
    have md : d ∈ h.all := (o.mem_had.mp (show d ∈ h.had k by rw [he]; exact List.mem_append.mpr (.inr hd))).1
    obtain ⟨a, b, ea⟩ := List.append_of_mem me
    obtain ⟨e', he', hid, hc⟩ := o.deeds.spot a e b ea p s _ hp
    have : e' = d := o.deeds.uniq (by rw [ea]; exact List.mem_append.mpr (.inl he')) md (by rw [hid, hds])
    subst this
    have r2 := List.pairwise_cons.mp (List.pairwise_append.mp r).2.1
    rcases List.mem_cons.mp hd with rfl | hd
    · omega
    · have := before_iff.mp (r2.1 e' hd)
      omega
  target := by
    intro pre e post he i hi
    have r := o.had_rising k
    rw [he] at r
    have m := o.mem_had.mp (show e ∈ h.had k by rw [he]; simp)
    obtain ⟨a, b, ea⟩ := List.append_of_mem m.1
    obtain ⟨d, hd, hid, hh, hn⟩ := o.deeds.target a e b ea i hi
    have md : d ∈ h.all := by rw [ea]; exact List.mem_append.mpr (.inl hd)
    have hb : d.stamp.before e.stamp = true := by
      have mo := o.deeds.mono
      rw [ea] at mo
      have := (List.pairwise_append.mp mo).2.2 d hd e List.mem_cons_self hh
      exact before_iff.mpr (.inl this)
    have hw : was (h.desk k).has d = true := by
      have w := of_decide_eq_true m.2
      refine decide_eq_true ?_
      rw [hh]
      obtain ⟨a1, a2, ea2⟩ := List.append_of_mem hd
      have n1 := o.deeds.num a e b ea
      have n2 := o.deeds.num a1 d (a2 ++ e :: b) (by rw [ea, ea2]; simp)
      rw [hh] at n2
      rw [ea2, cnt_append] at n1
      omega
    have hm : d ∈ pre ++ e :: post := by rw [← he]; exact o.mem_had.mpr ⟨md, hw⟩
    exact ⟨d, r.pre hm hb, hid, hn, hh⟩
end Ho
end

section
/-! Each call keeps it. -/
set_option autoImplicit false
namespace Ho
open Sq36
theorem at_set (c : Counts) (k v j : Nat) (hk : k < c.length) : at_ (c.set k v) j = if j = k then v else at_ c j := by
  unfold at_
  rw [List.getElem?_set]
  by_cases e : k = j
  · subst e
    rw [if_pos rfl, if_pos hk, if_pos rfl]
    rfl
  · rw [if_neg e, if_neg (fun z => e z.symm)]
theorem at_most (a b : Counts) (j : Nat) (hj : j < a.length) : at_ (most a b) j = max (at_ a j) (at_ b j) := by
  have e : (most a b)[j]? = some (max (at_ a j) (at_ b j)) := by
    unfold most
    rw [List.getElem?_map, List.getElem?_range hj]
    rfl
  unfold at_ at *
  rw [e]
  rfl
theorem most_len (a b : Counts) : (most a b).length = a.length := by
  unfold most
  rw [List.length_map, List.length_range]
theorem at_over (a : Counts) (j : Nat) (hj : a.length ≤ j) : at_ a j = 0 := by
  unfold at_
  rw [List.getElem?_eq_none hj]
  rfl
section
variable {n : Nat} {all : List Deed} {c : Counts} {cl : Nat} {d : Deed}
theorem CountsOk.grow (o : CountsOk n all c cl) (hn : d.n = cnt all d.stamp.hand + 1) : CountsOk n (all ++ [d]) c cl where
  len := o.len
  le := fun j => by rw [cnt_append]; exact Nat.le_trans (o.le j) (Nat.le_add_right _ _)
  clock := fun e he w => by
    rcases List.mem_append.mp he with he | he
    · exact o.clock e he w
    · rw [List.mem_singleton.mp he] at w
      have := of_decide_eq_true w
      have := o.le d.stamp.hand
      omega
theorem CountsOk.own (o : CountsOk n all c cl) {k : Nat} (hk : k < n) (hn : d.n = cnt all d.stamp.hand + 1) (hh : d.stamp.hand = k) (hc : d.stamp.count = cl + 1) (ho : at_ c k = cnt all k) (hle : ∀ e ∈ all, e.n ≤ cnt all e.stamp.hand) :
    CountsOk n (all ++ [d]) (c.set k (at_ c k + 1)) (cl + 1) where
  len := by rw [List.length_set]; exact o.len
  le := fun j => by
    rw [at_set _ _ _ _ (by rw [o.len]; exact hk), cnt_append, cnt_one]
    by_cases e : j = k
    · subst e; rw [if_pos rfl, if_pos hh]; have := o.le j; omega
    · rw [if_neg e]; have := o.le j; omega
  clock := fun e he w => by
    rcases List.mem_append.mp he with he | he
    · have w' := of_decide_eq_true w
      rw [at_set _ _ _ _ (by rw [o.len]; exact hk)] at w'
      by_cases z : was c e = true
      · have := o.clock e he z; omega
      · exfalso
        have z' : ¬ e.n ≤ at_ c e.stamp.hand := fun q => z (decide_eq_true q)
        by_cases q : e.stamp.hand = k
        · rw [if_pos q] at w'
          rw [q] at z'
          have := hle e he
          rw [q] at this
          omega
        · rw [if_neg q] at w'; exact z' w'
    · rw [List.mem_singleton.mp he]
      omega
theorem CountsOk.most (o : CountsOk n all c cl) {c2 : Counts} {cl2 : Nat} (o2 : CountsOk n all c2 cl2) (hh : ∀ e ∈ all, e.stamp.hand < n) : CountsOk n all (Sq36.most c c2) (max cl cl2) where
  len := by rw [most_len]; exact o.len
  le := fun j => by
    by_cases q : j < c.length
    · rw [at_most _ _ _ q]; have := o.le j; have := o2.le j; omega
    · rw [at_over _ _ (by rw [most_len]; omega)]; exact Nat.zero_le _
  clock := fun e he w => by
    have w' := of_decide_eq_true w
    rw [at_most _ _ _ (by rw [o.len]; exact hh e he)] at w'
    by_cases z : e.n ≤ at_ c e.stamp.hand
    · have := o.clock e he (decide_eq_true z); omega
    · have := o2.clock e he (decide_eq_true (by omega)); omega
end
theorem does_all (h : House) (k : Nat) (a : Act) : (h.does k a).all = h.all ++ [⟨h.all.length, ⟨(h.desk k).clock + 1, k⟩, at_ (h.desk k).has k + 1, (h.desk k).has, a⟩] := rfl
theorem Ok.does {h : House} (o : Ok h) {k : Nat} (hk : k < h.hands) (hf : h.all.length < 100) {a : Act} (th : Nat) (hth : th = h.things ∨ th = h.things + 1)
    (ht : ∀ i, Deed.of_ ⟨h.all.length, ⟨(h.desk k).clock + 1, k⟩, at_ (h.desk k).has k + 1, (h.desk k).has, a⟩ = some i → ∃ e ∈ h.all, e.id = i ∧ e.stamp.hand = k ∧ e.of_ = none)
    (hs : ∀ p s r, isAt p (some s) r ⟨h.all.length, ⟨(h.desk k).clock + 1, k⟩, at_ (h.desk k).has k + 1, (h.desk k).has, a⟩ = true → ∃ e ∈ h.all, e.id = s ∧ e.stamp.count < (h.desk k).clock + 1) :
    Ok { h.does k a with things := th } := by
  have D := o.deskOk hk
  have hn : at_ (h.desk k).has k + 1 = cnt h.all k + 1 := by rw [D.own]
  have own : ∀ e ∈ h.all, e.stamp.hand = k → e.stamp.count < (h.desk k).clock + 1 := by
    intro e he q
    have := D.has.clock e he (decide_eq_true (by rw [q, D.own, ← q]; exact o.deeds.num_le he))
    omega
  exact {
    lo := o.lo
    hi := o.hi
    desks := by
      show (h.desks.set k _).length = h.hands
      rw [List.length_set]; exact o.desks
    deeds := o.deeds.snoc rfl hk hn own D.has.len ht hs
    full := by
      show (h.all ++ [_]).length ≤ 100
      rw [List.length_append]; exact hf
    desk := by
      intro j x hx
      have e : (h.desks.set k { h.desk k with has := (h.desk k).has.set k (at_ (h.desk k).has k + 1), clock := (h.desk k).clock + 1 })[j]? = some x := hx
      rw [List.getElem?_set] at e
      by_cases q : k = j
      · subst q
        rw [if_pos rfl, if_pos (by rw [o.desks]; exact hk)] at e
        cases e
        refine ⟨D.has.own hk hn rfl rfl D.own fun e he => o.deeds.num_le he, ?_, D.sure, D.sures, D.heard⟩
        show at_ ((h.desk k).has.set k (at_ (h.desk k).has k + 1)) k = cnt (h.all ++ [_]) k
        rw [at_set _ _ _ _ (by rw [D.has.len]; exact hk), if_pos rfl, cnt_append, cnt_one, if_pos rfl, D.own]
      · rw [if_neg q] at e
        have D2 := o.desk j x e
        refine ⟨D2.has.grow hn, ?_, D2.sure, D2.sures, D2.heard⟩
        show at_ x.has j = cnt (h.all ++ [_]) j
        rw [cnt_append, cnt_one, if_neg q, D2.own]; rfl
    letters := fun m hm => by
      have L := o.letters m hm
      exact ⟨L.src, L.dst, L.ne, L.has.grow hn⟩
    lfull := o.lfull
    things := by
      have := o.things
      show 2 ≤ th
      omega }
theorem Ok.send {h : House} (o : Ok h) {k j : Nat} (hk : k < h.hands) (hj : j < h.hands) (hkj : k ≠ j) (hl : h.letters.length < 200) :
    Ok { h with letters := h.letters ++ [⟨k, j, (h.desk k).has, (h.desk k).clock⟩] } where
  lo := o.lo
  hi := o.hi
  desks := o.desks
  deeds := o.deeds
  full := o.full
  desk := o.desk
  letters := fun m hm => by
    rcases List.mem_append.mp hm with hm | hm
    · exact o.letters m hm
    · rw [List.mem_singleton.mp hm]; exact ⟨hk, hj, hkj, (o.deskOk hk).has⟩
  lfull := by
    show (h.letters ++ [_]).length ≤ 200
    rw [List.length_append]; exact hl
  things := o.things
theorem Ok.setDesk {h : House} (o : Ok h) {k : Nat} {y : Desk} (hy : k < h.hands → DeskOk h.hands h.all k y) : Ok (h.set k y) where
  lo := o.lo
  hi := o.hi
  desks := by
    show (h.desks.set k _).length = h.hands
    rw [List.length_set]; exact o.desks
  deeds := o.deeds
  full := o.full
  desk := by
    intro j x hx
    have e : (h.desks.set k y)[j]? = some x := hx
    rw [List.getElem?_set] at e
    by_cases q : k = j
    · subst q
      rw [if_pos rfl] at e
      split at e
      · rename_i c
        cases e
        exact hy (by rw [o.desks] at c; exact c)
      · cases e
    · rw [if_neg q] at e
      exact o.desk j x e
  letters := o.letters
  lfull := o.lfull
  things := o.things
theorem Ok.comes {h : House} (o : Ok h) {m : Letter} (hm : m ∈ h.letters) : Ok (h.set m.to { h.desk m.to with has := most (h.desk m.to).has m.has, clock := max (h.desk m.to).clock m.clock, sure := (h.desk m.to).sure.set m.from_ (most (((h.desk m.to).sure[m.from_]?).getD []) m.has), heard := (h.desk m.to).heard.set m.from_ (max (Sq36.at_ (h.desk m.to).heard m.from_) m.clock) }) := by
  refine o.setDesk fun hk => ?_
  have D := o.deskOk hk
  have L := o.letters m hm
  refine ⟨D.has.most L.has o.deeds.hand, ?_, ?_, ?_, ?_⟩
  · show at_ (most (h.desk m.to).has m.has) m.to = cnt h.all m.to
    rw [at_most _ _ _ (by rw [D.has.len]; exact hk), D.own]
    have := L.has.le m.to
    omega
  · show ((h.desk m.to).sure.set m.from_ _).length = h.hands
    rw [List.length_set]; exact D.sure
  · intro c hc
    have hc' : c ∈ (h.desk m.to).sure.set m.from_ (most (((h.desk m.to).sure[m.from_]?).getD []) m.has) := hc
    rcases List.mem_or_eq_of_mem_set hc' with hc' | hc'
    · exact D.sures c hc'
    · rw [hc', most_len]
      have lt : m.from_ < (h.desk m.to).sure.length := by rw [D.sure]; exact L.src
      rw [List.getElem?_eq_getElem lt]
      exact D.sures _ (List.getElem_mem lt)
  · show ((h.desk m.to).heard.set m.from_ _).length = h.hands
    rw [List.length_set]; exact D.heard
theorem behind_spot {l : List Deed} {p : Nat} {o : Option Nat} {s : Nat} {r : Bool} (h : behind l p o = (some s, r)) : o = some s ∨ ∃ d ∈ spots l p, d.id = s := by
  have sub : ∀ (rest : List Deed), (∀ x ∈ rest, x ∈ spots l p) → (match rest with | [] => (o, true) | d :: _ => (some d.id, false)) = (some s, r) → (o = some s) ∨ ∃ d ∈ spots l p, d.id = s := by
    intro rest hr h
    cases rest with
    | nil => left; injection h
    | cons d b =>
      right
      refine ⟨d, hr d List.mem_cons_self, ?_⟩
      injection h with h1 _
      exact Option.some.inj h1
  unfold behind at h
  split at h
  · left; injection h
  · cases o with
    | none => exact sub (spots l p) (fun x hx => hx) h
    | some t => exact sub (((spots l p).dropWhile fun (d : Deed) => d.id != t).drop 1) (fun x hx => (List.dropWhile_sublist _).subset (List.mem_of_mem_drop hx)) h
theorem spotIn_spot {l r : List Deed} {p i s : Nat} (hr : ∀ d ∈ r, d ∈ spots l p) (h : (spotIn l p r i).1 = some s) : ∃ d ∈ spots l p, d.id = s := by
  unfold spotIn at h
  have h2 := behind_spot (Prod.ext h rfl : behind l p (if i = 0 then none else (r[i - 1]?).map fun d => d.id) = (some s, (behind l p (if i = 0 then none else (r[i - 1]?).map fun d => d.id)).2))
  rcases h2 with h2 | h2
  · split at h2
    · cases h2
    · cases e : r[i - 1]? with
      | none => rw [e] at h2; cases h2
      | some d =>
        rw [e] at h2
        exact ⟨d, hr d (List.mem_of_getElem? e), Option.some.inj h2⟩
  · exact h2
theorem row_spots {l : List Deed} {t : Sq28.Tree} {p : Nat} {d : Deed} (h : d ∈ row l t p) : d ∈ spots l p := (List.mem_filter.mp h).1
theorem Ok.put {h : House} (o : Ok h) {k : Nat} (hk : k < h.hands) (hf : h.all.length < 100) {x p i : Nat} {r : List Deed} (hr : ∀ d ∈ r, d ∈ spots (h.had k) p) (th : Nat) (hth : th = h.things ∨ th = h.things + 1) :
    Ok { h.does k (.put x p (spotIn (h.had k) p r i).1 (spotIn (h.had k) p r i).2) with things := th } := by
  refine o.does hk hf th hth (fun i h => by cases h) fun q s z hq => ?_
  have e : ((spotIn (h.had k) p r i).1 == some s) = true := by
    unfold isAt at hq
    rw [Bool.and_eq_true, Bool.and_eq_true] at hq
    exact hq.2.1
  obtain ⟨d, hd, hds⟩ := spotIn_spot hr (eq_of_beq e)
  have m := (spots_mem hd).1
  have := o.had_count hk m
  exact ⟨d, (o.mem_had.mp m).1, hds, by omega⟩
theorem Ok.plain {h : House} (o : Ok h) {k : Nat} (hk : k < h.hands) (hf : h.all.length < 100) {a : Act} (ha : (∃ x f v, a = .tell x f v) ∨ (∃ x f, a = .clear x f) ∨ ∃ x v, a = .add x v) : Ok (h.does k a) := by
  have := o.does hk hf (a := a) h.things (.inl rfl) (fun i q => ?_) fun p s r q => ?_
  · exact this
  · rcases ha with ⟨_, _, _, rfl⟩ | ⟨_, _, rfl⟩ | ⟨_, _, rfl⟩ <;> cases q
  · rcases ha with ⟨_, _, _, rfl⟩ | ⟨_, _, rfl⟩ | ⟨_, _, rfl⟩ <;> cases q
theorem Ok.taking {h : House} (o : Ok h) {k : Nat} (hk : k < h.hands) (hf : h.all.length < 100) {d : Deed} (hd : d ∈ h.own k) {a : Act} (ha : a = .back d.id ∨ a = .again d.id) : Ok (h.does k a) := by
  have m := List.mem_filter.mp hd
  rw [Bool.and_eq_true] at m
  have := o.does hk hf (a := a) h.things (.inl rfl) (fun i q => ?_) fun p s r q => ?_
  · exact this
  · refine ⟨d, (o.mem_had.mp m.1).1, ?_, eq_of_beq m.2.1, eq_of_beq m.2.2⟩
    rcases ha with rfl | rfl
    · exact Option.some.inj q
    · exact Option.some.inj q
  · rcases ha with rfl | rfl <;> cases q
theorem Ok.step {h : House} (o : Ok h) (c : Call) : Ok (h.step c).1 := by
  have tr : ∀ {k : Nat} {a : Act} {f : House → House × Out}, (h.all.length < 100 → Ok (f (h.does k a)).1) → Ok (h.try_ k a f).1 := by
    intro k a f hq
    unfold House.try_
    split
    · exact o
    · rename_i c
      exact hq (by have : ¬ 100 ≤ h.all.length := c; omega)
  have at' : ∀ {k x : Nat} {f : List Deed → Sq28.Tree → House × Out}, (k < h.hands → Ok (f (h.had k) (h.tree k)).1) → Ok (h.at_ k x f).1 := by
    intro k x f hq
    unfold House.at_
    split
    · exact o
    · split
      · exact o
      · exact hq (by omega)
  cases c with
  | begin_ n =>
    show Ok (if n = 0 ∨ HANDS < n then (h, says (-1)) else (new n, says 0)).1
    split
    · exact o
    · rename_i c
      have : ¬ (n = 0 ∨ 6 < n) := c
      exact ok_new (by omega) (by omega)
  | make k p i =>
    refine at' fun hk => ?_
    simp only []
    split
    · exact o
    · exact tr fun hf => o.put hk hf (fun d hd => row_spots hd) _ (.inr rfl)
  | move k x p i =>
    refine at' fun hk => ?_
    simp only []
    split
    · exact o
    · split
      · exact o
      · split
        · exact o
        · exact tr fun hf => o.put hk hf (fun d hd => row_spots (List.mem_filter.mp hd).1) h.things (.inl rfl)
  | tell k x f v =>
    refine at' fun hk => ?_
    split
    · exact o
    · exact tr fun hf => o.plain hk hf (.inl ⟨_, _, _, rfl⟩)
  | clear k x f =>
    refine at' fun hk => ?_
    split
    · exact o
    · exact tr fun hf => o.plain hk hf (.inr (.inl ⟨_, _, rfl⟩))
  | add k x v =>
    refine at' fun hk => ?_
    split
    · exact o
    · exact tr fun hf => o.plain hk hf (.inr (.inr ⟨_, _, rfl⟩))
  | less k x v =>
    refine at' fun hk => ?_
    split
    · exact o
    · exact tr fun hf => o.plain hk hf (.inr (.inr ⟨_, _, rfl⟩))
  | back k i =>
    simp only [House.step]
    split
    · exact o
    · rename_i hk
      cases e : (h.own k).find? fun d => d.id == i with
      | none => exact o
      | some d =>
        simp only []
        split
        · exact o
        · have hi : d.id = i := by
            have := List.find?_some (p := fun (d : Deed) => d.id == i) e
            exact eq_of_beq this
          subst hi
          exact tr fun hf => o.taking (by omega) hf (List.mem_of_find?_eq_some e) (.inl rfl)
  | undo k =>
    simp only [House.step]
    split
    · exact o
    · rename_i hk
      cases e : h.lastOwn k with
      | none => exact o
      | some d =>
        simp only []
        split
        · exact o
        · have hm : d ∈ h.own k := (List.mem_filter.mp (List.mem_of_getLast? e)).1
          exact tr fun hf => o.taking (by omega) hf hm (.inl rfl)
  | redo k =>
    simp only [House.step]
    split
    · exact o
    · rename_i hk
      cases e : h.nextOwn k with
      | none => exact o
      | some d =>
        simp only []
        split
        · exact o
        · have hm : d ∈ h.own k := by
            unfold House.nextOwn at e
            split at e
            · cases e
            · split at e
              · cases e
              · exact List.mem_of_find?_eq_some e
          exact tr fun hf => o.taking (by omega) hf hm (.inr rfl)
  | send k j =>
    simp only [House.step]
    split
    · exact o
    · split
      · exact o
      · rename_i c1 c2
        have : ¬ 200 ≤ h.letters.length := c2
        exact o.send (by omega) (by omega) (by omega) (by omega)
  | comes i =>
    simp only [House.step]
    cases e : h.letters[i]? with
    | none => exact o
    | some m => exact o.comes (List.mem_of_getElem? e)
  | forget k =>
    simp only [House.step]
    split
    · exact o
    · refine o.setDesk fun hk => ?_
      have D := o.deskOk hk
      exact ⟨D.has, D.own, D.sure, D.sures, D.heard⟩
  | tree k x => exact at' fun _ => o
  | row k x => exact at' fun _ => o
  | line k x => exact at' fun _ => o
  | values k x f =>
    refine at' fun hk => ?_
    split <;> exact o
  | amounts k x => exact at' fun _ => o
  | find k f v =>
    simp only [House.step]
    split
    · exact o
    · split <;> exact o
  | kept k =>
    simp only [House.step]
    split <;> exact o
  | same k j =>
    simp only [House.step]
    split <;> exact o
theorem ok_fresh : Ok fresh := ok_new (Nat.le_refl 1) (by decide)
end Ho
end

section
/-! Each put has one spot: how long the lists of spots get. -/
set_option autoImplicit false
namespace Ho
open Sq36
def Live (post : List Deed) (o : Option Nat) : Prop := ∀ d ∈ post, o ≠ some d.id
theorem isAt_key {p : Nat} {o o' : Option Nat} {r r' : Bool} {d : Deed} (h : isAt p o r d = true) (h' : isAt p o' r' d = true) : o = o' ∧ r = r' := by
  unfold isAt at h h'
  cases e : d.act <;> rw [e] at h h' <;> simp only [Bool.and_eq_true] at h h'
  · exact ⟨(eq_of_beq h.2.1).symm.trans (eq_of_beq h'.2.1), (eq_of_beq h.2.2).symm.trans (eq_of_beq h'.2.2)⟩
  all_goals cases h
theorem sides_ok {q : List Deed} (O : Ordered q) (ids : (q.map (·.id)).Nodup) (p : Nat) : ∀ (post pre : List Deed), q = pre ++ post →
    (∀ o r, Live post o → (sides q p post o r).Nodup ∧ ∀ x ∈ sides q p post o r, x ∈ post) ∧
    ∀ o r o' r' x, Live post o → Live post o' → x ∈ sides q p post o r → x ∈ sides q p post o' r' → o = o' ∧ r = r'
  | [], _, _ => ⟨fun o r _ => ⟨List.nodup_nil, fun x hx => by cases hx⟩, fun o r o' r' x _ _ hx => by cases hx⟩
  | e :: post, pre, hq => by
    obtain ⟨ih1, ih2⟩ := sides_ok O ids p post (pre ++ [e]) (by rw [hq]; simp)
    have ne : ∀ d ∈ post, d.id ≠ e.id := by
      intro d hd z
      rw [hq, List.map_append, List.map_cons, List.nodup_append] at ids
      exact (List.nodup_cons.mp ids.2.1).1 (List.mem_map.mpr ⟨d, hd, z⟩)
    have live : ∀ o, Live (e :: post) o → Live post o := fun o h d hd => h d (List.mem_cons_of_mem _ hd)
    have liveE : Live post (some e.id) := fun d hd z => ne d hd (Option.some.inj z).symm
    have notE : ∀ o, Live (e :: post) o → o ≠ some e.id := fun o h => h e List.mem_cons_self
    have enot : e ∉ post := fun h => ne e h rfl
    have wh := whole_sides O p hq
    have L := ih1 (some e.id) false liveE
    have R := ih1 (some e.id) true liveE
    have memW : ∀ x, x ∈ whole q p e → x = e ∨ ∃ r, x ∈ sides q p post (some e.id) r := by
      intro x hx
      rw [wh] at hx
      rcases List.mem_append.mp hx with hx | hx
      · rcases List.mem_append.mp hx with hx | hx
        · exact .inr ⟨_, hx⟩
        · exact .inl (List.mem_singleton.mp hx)
      · exact .inr ⟨_, hx⟩
    have subW : ∀ x ∈ whole q p e, x ∈ e :: post := by
      intro x hx
      rcases memW x hx with rfl | ⟨r, hx⟩
      · exact List.mem_cons_self
      · exact List.mem_cons_of_mem _ ((ih1 _ r liveE).2 x hx)
    have ndW : (whole q p e).Nodup := by
      rw [wh, List.nodup_append, List.nodup_append]
      refine ⟨⟨L.1, List.nodup_cons.mpr ⟨List.not_mem_nil, List.nodup_nil⟩, fun a ha b hb z => ?_⟩, R.1, fun a ha b hb z => ?_⟩
      · rw [List.mem_singleton.mp hb] at z
        rw [z] at ha
        exact enot (L.2 _ ha)
      · subst z
        rcases List.mem_append.mp ha with ha | ha
        · have := (ih2 _ _ _ _ a liveE liveE ha hb).2
          cases this
        · rw [List.mem_singleton.mp ha] at hb
          exact enot (R.2 _ hb)
    have sep : ∀ o r x, Live (e :: post) o → x ∈ whole q p e → x ∈ sides q p post o r → False := by
      intro o r x lo hx hs
      rcases memW x hx with rfl | ⟨r', hx⟩
      · exact enot ((ih1 o r (live o lo)).2 _ hs)
      · exact notE o lo (ih2 _ _ _ _ x (live o lo) liveE hs hx).1
    constructor
    · intro o r lo
      rw [sides_cons]
      split
      · refine ⟨?_, fun x hx => ?_⟩
        · rw [List.nodup_append]
          refine ⟨ndW, (ih1 o r (live o lo)).1, fun a ha b hb z => ?_⟩
          subst z
          exact sep o r a lo ha hb
        · rcases List.mem_append.mp hx with hx | hx
          · exact subW x hx
          · exact List.mem_cons_of_mem _ ((ih1 o r (live o lo)).2 x hx)
      · exact ⟨(ih1 o r (live o lo)).1, fun x hx => List.mem_cons_of_mem _ ((ih1 o r (live o lo)).2 x hx)⟩
    · intro o r o' r' x lo lo' hx hx'
      rw [sides_cons] at hx hx'
      split at hx
      · rename_i c
        split at hx'
        · rename_i c'
          exact isAt_key c c'
        · rcases List.mem_append.mp hx with hx | hx
          · exact (sep o' r' x lo' hx hx').elim
          · exact ih2 _ _ _ _ x (live o lo) (live o' lo') hx hx'
      · split at hx'
        · rcases List.mem_append.mp hx' with hx' | hx'
          · exact (sep o r x lo hx' hx).elim
          · exact ih2 _ _ _ _ x (live o lo) (live o' lo') hx hx'
        · exact ih2 _ _ _ _ x (live o lo) (live o' lo') hx hx'
theorem sides_len {q : List Deed} (O : Ordered q) (ids : (q.map (·.id)).Nodup) (p : Nat) {post pre : List Deed} (h : q = pre ++ post) {o : Option Nat} (r : Bool) (lo : Live post o) : (sides q p post o r).length ≤ post.length :=
  let ⟨n, s⟩ := (sides_ok O ids p post pre h).1 o r lo
  length_le_of_sub n s
theorem live_none (post : List Deed) : Live post none := fun d _ z => by cases z
theorem live_self {q pre post : List Deed} {e : Deed} (ids : (q.map (·.id)).Nodup) (h : q = pre ++ e :: post) : Live post (some e.id) := by
  intro d hd z
  rw [h, List.map_append, List.map_cons, List.nodup_append] at ids
  exact (List.nodup_cons.mp ids.2.1).1 (List.mem_map.mpr ⟨d, hd, (Option.some.inj z).symm⟩)
theorem live_at {q pre post : List Deed} {e : Deed} (O : Ordered q) (h : q = pre ++ e :: post) {p : Nat} {o : Option Nat} {r : Bool} (ha : isAt p o r e = true) : Live post o := by
  intro d hd z
  subst z
  exact O pre e post h p d.id r ha d (List.mem_cons_of_mem _ hd) rfl
theorem spots_sides {l : List Deed} (O : Ordered l) (p : Nat) : spots l p = sides (l.filter (isPut p)) p (l.filter (isPut p)) none true := spots_puts O p
theorem spots_len {l : List Deed} (O : Ordered l) (ids : (l.map (·.id)).Nodup) (p : Nat) : (spots l p).length ≤ l.length := by
  rw [spots_sides O p]
  refine Nat.le_trans (sides_len (O.puts p) (List.Nodup.sublist (List.Sublist.map _ List.filter_sublist) ids) p (pre := []) rfl true (live_none _)) (List.length_filter_le _ _)
theorem spots_nodup {l : List Deed} (O : Ordered l) (ids : (l.map (·.id)).Nodup) (p : Nat) : (spots l p).Nodup := by
  rw [spots_sides O p]
  exact ((sides_ok (O.puts p) (List.Nodup.sublist (List.Sublist.map _ List.filter_sublist) ids) p _ [] rfl).1 none true (live_none _)).1
end Ho
end

section
/-! The tree by its puts; rows. -/
set_option autoImplicit false
namespace Ho
open Sq36
def mv (d : Deed) : Option Sq28.Deed := match d.act with
  | .put x u _ _ => some ⟨d.id, d.stamp, x, u, d.id⟩
  | _ => none
def treeBy (hl : List Deed) : Sq28.Tree := Sq28.treeOf (hl.filterMap mv)
theorem treeBy_held (l : List Deed) : treeBy (held l) = treeOf l := rfl
theorem treeBy_nil : treeBy [] = [] := rfl
theorem treeBy_snoc (l : List Deed) (d : Deed) : treeBy (l ++ [d]) = match d.act with
    | .put x u _ _ => if Sq28.there (treeBy l) u = true ∧ x ∉ Sq28.above (treeBy l) u then Sq28.put ⟨x, u, d.id⟩ (treeBy l) else treeBy l
    | _ => treeBy l := by
  have st : treeBy (l ++ [d]) = ([d].filterMap mv).foldl Sq28.done (treeBy l) := by
    unfold treeBy Sq28.treeOf
    rw [List.filterMap_append, List.foldl_append]
  rw [st]
  generalize treeBy l = t
  cases e : d.act with
  | put x u o r =>
    have m : List.filterMap mv [d] = [⟨d.id, d.stamp, x, u, d.id⟩] := by simp [mv, e]
    rw [m]
    show Sq28.done t _ = _
    unfold Sq28.done Sq28.outcome
    simp only
    by_cases c1 : Sq28.there t u = false
    · rw [if_pos c1, if_neg (by decide), if_neg (fun z => by rw [z.1] at c1; cases c1)]
    · rw [if_neg c1]
      have c1' : Sq28.there t u = true := by simpa using c1
      by_cases c2 : x ∈ Sq28.above t u
      · rw [if_pos (List.contains_iff_mem.mpr c2), if_neg (by decide), if_neg (fun z => z.2 c2)]
      · rw [if_neg (fun z => c2 (List.contains_iff_mem.mp z)), if_pos rfl, if_pos ⟨c1', c2⟩]
  | tell x f v => simp [mv, e]
  | clear x f => simp [mv, e]
  | add x v => simp [mv, e]
  | back i => simp [mv, e]
  | again i => simp [mv, e]
theorem put_len (p : Sq28.Place) (t : Sq28.Tree) : (Sq28.put p t).length ≤ t.length + 1 := by
  unfold Sq28.put
  rw [List.length_append, List.length_cons]
  have : (t.filter fun q => decide (q.thing < p.thing)).length + (t.filter fun q => decide (p.thing < q.thing)).length ≤ t.length := by
    induction t with
    | nil => exact Nat.le_refl _
    | cons q t ih =>
      rw [List.filter_cons, List.filter_cons]
      by_cases c : q.thing < p.thing
      · have c' : ¬ p.thing < q.thing := by omega
        rw [if_pos (decide_eq_true c), if_neg (by simpa using c')]
        simp only [List.length_cons]
        omega
      · rw [if_neg (by simpa using c)]
        split
        · simp only [List.length_cons]; omega
        · simp only [List.length_cons]; omega
  omega
/-- a thing is there by a put of the list -/
def ByPuts (hl : List Deed) (t : Sq28.Tree) : Prop := ∀ x pl, Sq28.get t x = some pl → ∃ d ∈ hl, d.id = pl.label ∧ ∃ o r, d.act = .put x pl.under o r
theorem snoc_ind {α : Type} {P : List α → Prop} (h0 : P []) (hs : ∀ l x, P l → P (l ++ [x])) : ∀ l, P l := by
  intro l
  have : ∀ (m : List α), P m.reverse := by
    intro m
    induction m with
    | nil => exact h0
    | cons x m ih => rw [List.reverse_cons]; exact hs _ _ ih
  have := this l.reverse
  rwa [List.reverse_reverse] at this
theorem treeBy_ok (hl : List Deed) : ByPuts hl (treeBy hl) ∧ (treeBy hl).length ≤ hl.length ∧ Grounded (treeBy hl) := by
  induction hl using snoc_ind with
  | h0 => exact ⟨(fun x pl h => nomatch h), Nat.le_refl _, grounded_nil⟩
  | hs l d ih =>
    obtain ⟨i1, i2, i3⟩ := ih
    have keep : ByPuts (l ++ [d]) (treeBy l) ∧ (treeBy l).length ≤ (l ++ [d]).length ∧ Grounded (treeBy l) :=
      ⟨fun x pl h => let ⟨e, he, q⟩ := i1 x pl h; ⟨e, List.mem_append.mpr (.inl he), q⟩, by rw [List.length_append]; omega, i3⟩
    rw [treeBy_snoc]
    cases e : d.act with
    | put x u o r =>
      simp only
      split
      · rename_i c
        refine ⟨fun y pl h => ?_, ?_, i3.put c.2⟩
        · by_cases z : y = x
          · subst z
            have := get_put_same (p := ⟨y, u, d.id⟩) (t := treeBy l)
            rw [this] at h
            cases h
            exact ⟨d, List.mem_append.mpr (.inr List.mem_cons_self), rfl, o, r, e⟩
          · rw [get_put_ne (p := ⟨x, u, d.id⟩) z] at h
            exact keep.1 y pl h
        · rw [List.length_append, List.length_singleton]
          exact Nat.le_trans (put_len _ _) (by omega)
      · exact keep
    | tell x f v => exact keep
    | clear x f => exact keep
    | add x v => exact keep
    | back i => exact keep
    | again i => exact keep
theorem held_sub {l : List Deed} {d : Deed} (h : d ∈ held l) : d ∈ l := (List.mem_filter.mp h).1
/-- by which put a thing is there -/
def isBy (t : Sq28.Tree) (d : Deed) : Bool := match Sq28.get t d.thing with
  | some q => q.label == d.id
  | none => false
theorem row_isBy {l : List Deed} (u : ∀ d e, d ∈ l → e ∈ l → d.id = e.id → d = e) (p : Nat) : row l (treeOf l) p = (spots l p).filter (isBy (treeOf l)) := by
  unfold row
  refine List.filter_congr fun d hd => ?_
  unfold isBy
  cases e : Sq28.get (treeOf l) d.thing with
  | none => rfl
  | some q =>
    simp only
    cases c : (q.label == d.id) with
    | false => rw [Bool.and_false]
    | true =>
      rw [Bool.and_true]
      obtain ⟨d', hd', hid, o, r, ha⟩ := (treeBy_ok (held l)).1 _ _ e
      obtain ⟨hm, o', r', hp⟩ := spots_mem hd
      have : d' = d := u d' d (held_sub hd') hm (by rw [hid]; exact eq_of_beq c)
      subst this
      unfold isAt at hp
      rw [ha] at hp
      simp only [Bool.and_eq_true] at hp
      exact hp.1
end Ho
end

section
set_option autoImplicit false
namespace Ho
open Sq36
def leD (a b : Deed) : Bool := decide ((a.stamp.count : Int) < b.stamp.count ∨ ((a.stamp.count : Int) = b.stamp.count ∧ (a.stamp.hand : Int) ≤ b.stamp.hand))
theorem sort_rising {l : List Deed} (hn : (l.map (·.stamp)).Nodup) : Rising (l.mergeSort leD) := by
  have p := List.mergeSort_perm l leD
  have s : (l.mergeSort leD).Pairwise fun a b => leD a b = true := List.pairwise_mergeSort (le := leD)
    (fun a b c h1 h2 => by unfold leD at *; have := of_decide_eq_true h1; have := of_decide_eq_true h2; exact decide_eq_true (by omega))
    (fun a b => by unfold leD; rw [Bool.or_eq_true, decide_eq_true_eq, decide_eq_true_eq]; omega) l
  have n : ((l.mergeSort leD).map (·.stamp)).Nodup := (p.map _).nodup_iff.mpr hn
  rw [List.nodup_iff_pairwise_ne, List.pairwise_map] at n
  have both := s.and n
  refine List.Pairwise.imp ?_ both
  intro a b h
  have h1 := of_decide_eq_true h.1
  rw [before_iff]
  by_cases c : a.stamp.count = b.stamp.count
  · by_cases d : a.stamp.hand = b.stamp.hand
    · exact absurd (stamp_ext c d) h.2
    · omega
  · omega
theorem Ok.had_sort {h : House} (o : Ok h) (k : Nat) : h.had k = (h.all.filter (was (h.desk k).has)).mergeSort leD :=
  o.had_eq (List.mergeSort_perm _ _) (sort_rising (List.Nodup.sublist (List.Sublist.map _ List.filter_sublist) o.deeds.stamps))
end Ho
end

section
/-! What is taken back and done again. -/
set_option autoImplicit false
namespace Ho
open Sq36
def isTk : Act → Bool
  | .back _ => true
  | .again _ => true
  | _ => false
theorem of_none {d : Deed} : (d.of_ == none) = !isTk d.act := by
  unfold Deed.of_ isTk
  cases d.act <;> rfl
def isOwn (k : Nat) (d : Deed) : Bool := d.stamp.hand == k && !isTk d.act
theorem own_eq (h : House) (k : Nat) : h.own k = (h.had k).filter (isOwn k) := by
  unfold House.own
  refine List.filter_congr fun d _ => ?_
  rw [of_none]
  rfl
theorem Ok.own_had {h : House} (o : Ok h) {k : Nat} (hk : k < h.hands) {d : Deed} (hd : d ∈ h.all) (hh : d.stamp.hand = k) : d ∈ h.had k :=
  o.mem_had.mpr ⟨hd, decide_eq_true (by rw [hh, (o.deskOk hk).own, ← hh]; exact o.deeds.num_le hd)⟩
theorem find_id {l : List Deed} (u : ∀ d e, d ∈ l → e ∈ l → d.id = e.id → d = e) {d : Deed} (hd : d ∈ l) : (l.find? fun e => e.id == d.id) = some d := by
  cases e : l.find? fun e => e.id == d.id with
  | none => exact absurd (beq_self_eq_true d.id) (List.find?_eq_none.mp e d hd)
  | some x =>
    have h1 := List.find?_some (p := fun (e : Deed) => e.id == d.id) e
    rw [u x d (List.mem_of_find?_eq_some e) hd (eq_of_beq h1)]
/-- back: whose deed it is -/
theorem Ok.own_find {h : House} (o : Ok h) {k : Nat} (hk : k < h.hands) (i : Nat) : (h.own k).find? (fun d => d.id == i) = match h.all[i]? with
    | some d => if isOwn k d = true then some d else none
    | none => none := by
  have uq : ∀ d e, d ∈ h.own k → e ∈ h.own k → d.id = e.id → d = e := fun d e hd he q => by
    rw [own_eq] at hd he
    exact (o.wf k).uniq (List.mem_filter.mp hd).1 (List.mem_filter.mp he).1 q
  cases e : h.all[i]? with
  | none =>
    simp only
    rw [List.find?_eq_none]
    intro d hd q
    rw [own_eq] at hd
    have hm := (o.mem_had.mp (List.mem_filter.mp hd).1).1
    obtain ⟨j, hj⟩ := List.getElem?_of_mem hm
    have := o.deeds.id j d hj
    have q' := eq_of_beq q
    have : j = i := by omega
    rw [this, e] at hj
    cases hj
  | some d =>
    simp only
    have hid := o.deeds.id i d e
    have hm := List.mem_of_getElem? e
    by_cases c : isOwn k d = true
    · rw [if_pos c]
      have hh : d.stamp.hand = k := by
        unfold isOwn at c
        rw [Bool.and_eq_true] at c
        exact eq_of_beq c.1
      have ho : d ∈ h.own k := by
        rw [own_eq]
        exact List.mem_filter.mpr ⟨o.own_had hk hm hh, c⟩
      have := find_id uq ho
      rw [hid] at this
      exact this
    · rw [if_neg c, List.find?_eq_none]
      intro x hx q
      rw [own_eq] at hx
      have mx := List.mem_filter.mp hx
      have : x = d := o.deeds.uniq (o.mem_had.mp mx.1).1 hm (by rw [eq_of_beq q, hid])
      rw [this] at mx
      exact c mx.2
theorem held_ids {l : List Deed} (u : ∀ d e, d ∈ l → e ∈ l → d.id = e.id → d = e) {d : Deed} (hd : d ∈ l) : ((held l).map (·.id)).contains d.id = holds l d := by
  cases c : holds l d with
  | true => exact List.contains_iff_mem.mpr (List.mem_map.mpr ⟨d, List.mem_filter.mpr ⟨hd, c⟩, rfl⟩)
  | false =>
    rw [← Bool.not_eq_true]
    intro z
    obtain ⟨e, he, q⟩ := List.mem_map.mp (List.contains_iff_mem.mp z)
    have m := List.mem_filter.mp he
    have := u e d m.1 hd q
    rw [this, c] at m
    exact Bool.noConfusion m.2
theorem lastOwn_eq (h : House) (k : Nat) : h.lastOwn k = ((held (h.had k)).filter (isOwn k)).getLast? := by
  unfold House.lastOwn held
  rw [own_eq, List.filter_filter, List.filter_filter]
  congr 2
  funext d
  exact Bool.and_comm ..
/-! ### redo -/
def target (d : Deed) : Nat := match d.act with
  | .back i => i
  | .again i => i
  | _ => 0
def scan (ids : List Nat) : List Deed → Option Nat
  | [] => none
  | e :: r => if isTk e.act = false then none else if (e.isBack && !ids.contains (target e)) = true then some (target e) else scan ids r
theorem scan_spec (ids : List Nat) (good : Deed → Bool) (hg : ∀ e : Deed, good e = (e.isBack && !ids.contains (target e))) : ∀ (r : List Deed),
    scan ids r = match r.find? good with
      | none => none
      | some b => if ((r.takeWhile fun e => !good e).any fun e => !isTk e.act) = true then none else some (target b)
  | [] => rfl
  | e :: r => by
    unfold scan
    by_cases c : isTk e.act = false
    · rw [if_pos c]
      have ng : good e = false := by
        rw [hg]
        unfold Deed.isBack
        unfold isTk at c
        cases q : e.act <;> rw [q] at c <;> simp_all
      rw [List.find?_cons, ng]
      simp only
      cases f : r.find? good with
      | none => rfl
      | some b =>
        simp only
        have tw : (e :: r).takeWhile (fun e => !good e) = e :: r.takeWhile fun e => !good e := by rw [List.takeWhile_cons, ng]; rfl
        rw [tw, List.any_cons, c]
        rfl
    · have c' : isTk e.act = true := by simpa using c
      rw [if_neg c, ← hg]
      cases g : good e with
      | true =>
        rw [if_pos rfl, List.find?_cons, g]
        simp only
        have tw : (e :: r).takeWhile (fun e => !good e) = [] := by rw [List.takeWhile_cons, g]; rfl
        rw [tw]
        rfl
      | false =>
        rw [if_neg Bool.false_ne_true, scan_spec ids good hg r, List.find?_cons, g]
        simp only
        cases f : r.find? good with
        | none => rfl
        | some b =>
          simp only
          have tw : (e :: r).takeWhile (fun e => !good e) = e :: r.takeWhile fun e => !good e := by rw [List.takeWhile_cons, g]; rfl
          rw [tw, List.any_cons, c']
          rfl
theorem getLast_find {α : Type} (p : α → Bool) (l : List α) : (l.filter p).getLast? = l.reverse.find? p := by
  rw [← List.head?_reverse, ← List.filter_reverse, List.head?_filter]
theorem Ok.next_scan {h : House} (o : Ok h) {k : Nat} (hk : k < h.hands) :
    (h.nextOwn k).map (·.id) = scan ((held (h.had k)).map (·.id)) ((h.had k).filter fun d => d.stamp.hand == k).reverse := by
  have wf := o.wf k
  have uq : ∀ d e, d ∈ h.had k → e ∈ h.had k → d.id = e.id → d = e := fun d e hd he => wf.uniq hd he
  have _ := hk
  -- a taking back of its own: its deed
  have tgt : ∀ b ∈ h.had k, b.isBack = true → b.stamp.hand = k → ∃ d ∈ h.own k, b.of_ = some d.id ∧ d.id = target b := by
    intro b hb hB hh
    obtain ⟨i, hi⟩ : ∃ i, b.act = .back i := by
      unfold Deed.isBack at hB
      cases q : b.act <;> rw [q] at hB <;> first | exact ⟨_, rfl⟩ | cases hB
    have ho : b.of_ = some i := by unfold Deed.of_; rw [hi]
    obtain ⟨a, c, e⟩ := List.append_of_mem hb
    obtain ⟨d, hd, hid, hn, hhd⟩ := wf.target a b c e i ho
    refine ⟨d, ?_, by rw [ho, hid], by unfold target; rw [hi, hid]⟩
    rw [own_eq]
    refine List.mem_filter.mpr ⟨by rw [e]; exact List.mem_append.mpr (.inl hd), ?_⟩
    unfold isOwn
    rw [hhd, hh, beq_self_eq_true, Bool.true_and, ← of_none, hn]
    rfl
  let good : Deed → Bool := fun e => e.isBack && !((held (h.had k)).map (·.id)).contains (target e)
  have goodEq : ∀ b ∈ h.had k, (b.isBack && (b.stamp.hand == k && (h.own k).any fun d => b.of_ == some d.id && !holds (h.had k) d)) = (b.stamp.hand == k && good b) := by
    intro b hb
    show _ = (b.stamp.hand == k && (b.isBack && !((held (h.had k)).map (·.id)).contains (target b)))
    cases c1 : b.isBack with
    | false => rw [Bool.false_and, Bool.false_and, Bool.and_false]
    | true =>
      rw [Bool.true_and, Bool.true_and]
      cases c2 : (b.stamp.hand == k) with
      | false => rfl
      | true =>
        rw [Bool.true_and, Bool.true_and]
        obtain ⟨d, hd, hof, hid⟩ := tgt b hb c1 (eq_of_beq c2)
        have hdh : d ∈ h.had k := by rw [own_eq] at hd; exact (List.mem_filter.mp hd).1
        rw [← hid, held_ids uq hdh, hof]
        cases c3 : holds (h.had k) d with
        | false =>
          rw [List.any_eq_true.mpr ⟨d, hd, by rw [beq_self_eq_true, c3]; rfl⟩]
          rfl
        | true =>
          show _ = false
          rw [← Bool.not_eq_true]
          intro z
          obtain ⟨e, he, q⟩ := List.any_eq_true.mp z
          rw [Bool.and_eq_true] at q
          have heh : e ∈ h.had k := by rw [own_eq] at he; exact (List.mem_filter.mp he).1
          have : d = e := uq d e hdh heh (Option.some.inj (eq_of_beq q.1))
          rw [← this, c3] at q
          exact Bool.noConfusion q.2
  have first : ((h.had k).filter fun b => b.isBack && (b.stamp.hand == k && (h.own k).any fun d => b.of_ == some d.id && !holds (h.had k) d)).getLast? = (((h.had k).filter fun d => d.stamp.hand == k).reverse).find? good := by
    rw [← getLast_find, List.filter_filter]
    congr 1
    refine List.filter_congr fun b hb => ?_
    rw [goodEq b hb, Bool.and_comm]
  rw [scan_spec _ good (fun e => rfl)]
  unfold House.nextOwn
  rw [first]
  cases f : (((h.had k).filter fun d => d.stamp.hand == k).reverse).find? good with
  | none => rfl
  | some b =>
    simp only
    have hb := List.mem_of_find?_eq_some f
    rw [List.mem_reverse] at hb
    have hbh := (List.mem_filter.mp hb).1
    have hbk : b.stamp.hand = k := eq_of_beq (List.mem_filter.mp hb).2
    have gb : good b = true := List.find?_some f
    have bB : b.isBack = true := by
      have : (b.isBack && !((held (h.had k)).map (·.id)).contains (target b)) = true := gb
      rw [Bool.and_eq_true] at this
      exact this.1
    obtain ⟨d, hd, hof, hid⟩ := tgt b hbh bB hbk
    have uo : ∀ d e, d ∈ h.own k → e ∈ h.own k → d.id = e.id → d = e := fun d e hd he q => by
      rw [own_eq] at hd he
      exact uq d e (List.mem_filter.mp hd).1 (List.mem_filter.mp he).1 q
    have fnd : ((h.own k).find? fun d => b.of_ == some d.id) = some d := by
      have := find_id uo hd
      rw [← this]
      congr 1
      funext e
      rw [hof]
      by_cases q : d.id = e.id
      · rw [q]; simp
      · have q1 : (some d.id == some e.id) = false := beq_eq_false_iff_ne.mpr (fun z => q (Option.some.inj z))
        rw [q1]
        exact (beq_eq_false_iff_ne.mpr (fun z => q z.symm)).symm
    -- what comes behind b
    have rising := o.had_rising k
    have rL : Rising ((h.had k).filter fun d => d.stamp.hand == k) := List.Pairwise.sublist List.filter_sublist rising
    obtain ⟨hp, as, bs, hsplit, hno⟩ := List.find?_eq_some_iff_append.mp f
    have tw : (((h.had k).filter fun d => d.stamp.hand == k).reverse).takeWhile (fun e => !good e) = as := by
      rw [hsplit]
      have all : ∀ (m : List Deed), (∀ a ∈ m, (!good a) = true) → (m ++ b :: bs).takeWhile (fun e => !good e) = m := by
        intro m
        induction m with
        | nil => intro _; rw [List.nil_append, List.takeWhile_cons, if_neg (by rw [gb]; exact Bool.false_ne_true)]
        | cons x m ih =>
          intro hm
          rw [List.cons_append, List.takeWhile_cons, if_pos (hm x List.mem_cons_self), ih fun a ha => hm a (List.mem_cons_of_mem _ ha)]
      exact all as hno
    have eL : ((h.had k).filter fun d => d.stamp.hand == k) = bs.reverse ++ b :: as.reverse := by
      rw [← List.reverse_reverse ((h.had k).filter fun d => d.stamp.hand == k), hsplit]
      simp
    have anyEq : ((h.own k).any fun d => b.stamp.before d.stamp) = (as.any fun e => !isTk e.act) := by
      rw [Bool.eq_iff_iff, List.any_eq_true, List.any_eq_true]
      rw [eL] at rL
      constructor
      · rintro ⟨e, he, hbe⟩
        rw [own_eq] at he
        have me := List.mem_filter.mp he
        have oe : e.stamp.hand = k ∧ isTk e.act = false := by
          have := me.2
          unfold isOwn at this
          rw [Bool.and_eq_true] at this
          exact ⟨eq_of_beq this.1, by simpa using this.2⟩
        have eL' : e ∈ bs.reverse ++ b :: as.reverse := by
          rw [← eL]
          exact List.mem_filter.mpr ⟨me.1, by rw [oe.1]; exact beq_self_eq_true k⟩
        rcases List.mem_append.mp eL' with q | q
        · exact absurd (before_trans hbe ((List.pairwise_append.mp rL).2.2 e q b List.mem_cons_self)) before_irrefl
        · rcases List.mem_cons.mp q with rfl | q
          · exact absurd hbe before_irrefl
          · exact ⟨e, List.mem_reverse.mp q, by rw [oe.2]; rfl⟩
      · rintro ⟨e, he, hc⟩
        have q : e ∈ as.reverse := List.mem_reverse.mpr he
        have hbe := (List.pairwise_cons.mp (List.pairwise_append.mp rL).2.1).1 e q
        have eL' : e ∈ ((h.had k).filter fun d => d.stamp.hand == k) := by rw [eL]; exact List.mem_append.mpr (.inr (List.mem_cons_of_mem _ q))
        have me := List.mem_filter.mp eL'
        refine ⟨e, ?_, hbe⟩
        rw [own_eq]
        refine List.mem_filter.mpr ⟨me.1, ?_⟩
        unfold isOwn
        rw [Bool.and_eq_true]
        exact ⟨me.2, hc⟩
    rw [tw, anyEq, fnd]
    split
    · rfl
    · show some d.id = _
      rw [hid]
end Ho
end

section
/-! The flat list of calls, call by call. -/
set_option autoImplicit false
set_option maxRecDepth 10000
namespace Ho
open Sq36
/-- how many numbers follow a call's own -/
def sizes : List (Int × Nat) := [(1, 1), (2, 3), (3, 4), (4, 4), (5, 3), (6, 3), (7, 3), (8, 2), (9, 1), (10, 1), (11, 2), (12, 1), (13, 1), (14, 2), (15, 2), (16, 2), (17, 3), (18, 2), (19, 3), (20, 1), (21, 2)]
theorem shape_in {p : Int} {n k : Nat} (h : PySq36.shape p = some (n, k)) : k = 0 ∧ (p, n) ∈ sizes := by
  by_cases c1 : p = 1
  · subst c1
    have e : PySq36.shape 1 = some (1, 0) := rfl
    rw [e] at h
    cases h
    exact ⟨rfl, by decide⟩
  by_cases c2 : p = 2
  · subst c2
    have e : PySq36.shape 2 = some (3, 0) := rfl
    rw [e] at h
    cases h
    exact ⟨rfl, by decide⟩
  by_cases c3 : p = 3
  · subst c3
    have e : PySq36.shape 3 = some (4, 0) := rfl
    rw [e] at h
    cases h
    exact ⟨rfl, by decide⟩
  by_cases c4 : p = 4
  · subst c4
    have e : PySq36.shape 4 = some (4, 0) := rfl
    rw [e] at h
    cases h
    exact ⟨rfl, by decide⟩
  by_cases c5 : p = 5
  · subst c5
    have e : PySq36.shape 5 = some (3, 0) := rfl
    rw [e] at h
    cases h
    exact ⟨rfl, by decide⟩
  by_cases c6 : p = 6
  · subst c6
    have e : PySq36.shape 6 = some (3, 0) := rfl
    rw [e] at h
    cases h
    exact ⟨rfl, by decide⟩
  by_cases c7 : p = 7
  · subst c7
    have e : PySq36.shape 7 = some (3, 0) := rfl
    rw [e] at h
    cases h
    exact ⟨rfl, by decide⟩
  by_cases c8 : p = 8
  · subst c8
    have e : PySq36.shape 8 = some (2, 0) := rfl
    rw [e] at h
    cases h
    exact ⟨rfl, by decide⟩
  by_cases c9 : p = 9
  · subst c9
    have e : PySq36.shape 9 = some (1, 0) := rfl
    rw [e] at h
    cases h
    exact ⟨rfl, by decide⟩
  by_cases c10 : p = 10
  · subst c10
    have e : PySq36.shape 10 = some (1, 0) := rfl
    rw [e] at h
    cases h
    exact ⟨rfl, by decide⟩
  by_cases c11 : p = 11
  · subst c11
    have e : PySq36.shape 11 = some (2, 0) := rfl
    rw [e] at h
    cases h
    exact ⟨rfl, by decide⟩
  by_cases c12 : p = 12
  · subst c12
    have e : PySq36.shape 12 = some (1, 0) := rfl
    rw [e] at h
    cases h
    exact ⟨rfl, by decide⟩
  by_cases c13 : p = 13
  · subst c13
    have e : PySq36.shape 13 = some (1, 0) := rfl
    rw [e] at h
    cases h
    exact ⟨rfl, by decide⟩
  by_cases c14 : p = 14
  · subst c14
    have e : PySq36.shape 14 = some (2, 0) := rfl
    rw [e] at h
    cases h
    exact ⟨rfl, by decide⟩
  by_cases c15 : p = 15
  · subst c15
    have e : PySq36.shape 15 = some (2, 0) := rfl
    rw [e] at h
    cases h
    exact ⟨rfl, by decide⟩
  by_cases c16 : p = 16
  · subst c16
    have e : PySq36.shape 16 = some (2, 0) := rfl
    rw [e] at h
    cases h
    exact ⟨rfl, by decide⟩
  by_cases c17 : p = 17
  · subst c17
    have e : PySq36.shape 17 = some (3, 0) := rfl
    rw [e] at h
    cases h
    exact ⟨rfl, by decide⟩
  by_cases c18 : p = 18
  · subst c18
    have e : PySq36.shape 18 = some (2, 0) := rfl
    rw [e] at h
    cases h
    exact ⟨rfl, by decide⟩
  by_cases c19 : p = 19
  · subst c19
    have e : PySq36.shape 19 = some (3, 0) := rfl
    rw [e] at h
    cases h
    exact ⟨rfl, by decide⟩
  by_cases c20 : p = 20
  · subst c20
    have e : PySq36.shape 20 = some (1, 0) := rfl
    rw [e] at h
    cases h
    exact ⟨rfl, by decide⟩
  by_cases c21 : p = 21
  · subst c21
    have e : PySq36.shape 21 = some (2, 0) := rfl
    rw [e] at h
    cases h
    exact ⟨rfl, by decide⟩
  have e : PySq36.shape p = none := by
    unfold PySq36.shape
    rw [if_neg c1, if_neg c2, if_neg c3, if_neg c4, if_neg c5, if_neg c6, if_neg c7, if_neg c8, if_neg c9, if_neg c10, if_neg c11, if_neg c12, if_neg c13, if_neg c14, if_neg c15, if_neg c16, if_neg c17, if_neg c18, if_neg c19, if_neg c20, if_neg c21]
  rw [e] at h
  cases h
/-- the list falls into calls -/
inductive Parse : List Int → List (List (List Int)) → Prop
  | nil : Parse [] []
  | cons {p : Int} {n : Nat} {args rest : List Int} {cs : List (List (List Int))} : (p, n) ∈ sizes → args.length = n → Parse rest cs → Parse (p :: (args ++ rest)) ([p :: args] :: cs)
theorem parse_of : ∀ (f : Nat) (l : List Int) (cs : List (List (List Int))), PyFlat.calls PySq36.shape f l = some cs → Parse l cs
  | f, [], cs, h => by
    have : PyFlat.calls PySq36.shape f [] = some [] := by cases f <;> rfl
    rw [this] at h
    cases h
    exact .nil
  | 0, _ :: _, _, h => by cases h
  | f + 1, p :: r, cs, h => by
    unfold PyFlat.calls at h
    cases e : PyFlat.call PySq36.shape (p :: r) with
    | none => rw [e] at h; cases h
    | some ct =>
      obtain ⟨c, t⟩ := ct
      rw [e] at h
      simp only at h
      cases e2 : PyFlat.calls PySq36.shape f t with
      | none => rw [e2] at h; cases h
      | some cs' =>
        rw [e2] at h
        cases h
        have ih := parse_of f t cs' e2
        simp only [PyFlat.call] at e
        cases es : PySq36.shape p with
        | none => rw [es] at e; cases e
        | some nk =>
          obtain ⟨n, k⟩ := nk
          obtain ⟨rfl, hm⟩ := shape_in es
          rw [es] at e
          simp only at e
          split at e
          · cases e
          · rename_i hl
            have rows0 : PyFlat.rows 0 (r.drop n) = some ([], r.drop n) := rfl
            rw [rows0] at e
            simp only at e
            cases e
            have := Parse.cons (p := p) (n := n) (args := r.take n) (rest := r.drop n) hm (by rw [List.length_take]; omega) ih
            rw [List.take_append_drop] at this
            exact this
def mkCall : Nat → List Nat → Option Call
  | 1, [a] => some (.begin_ a)
  | 2, [a, b, c] => some (.make a b c)
  | 3, [a, b, c, d] => some (.move a b c d)
  | 4, [a, b, c, d] => some (.tell a b c d)
  | 5, [a, b, c] => some (.clear a b c)
  | 6, [a, b, c] => some (.add a b c)
  | 7, [a, b, c] => some (.less a b c)
  | 8, [a, b] => some (.back a b)
  | 9, [a] => some (.undo a)
  | 10, [a] => some (.redo a)
  | 11, [a, b] => some (.send a b)
  | 12, [a] => some (.comes a)
  | 13, [a] => some (.forget a)
  | 14, [a, b] => some (.tree a b)
  | 15, [a, b] => some (.row a b)
  | 16, [a, b] => some (.line a b)
  | 17, [a, b, c] => some (.values a b c)
  | 18, [a, b] => some (.amounts a b)
  | 19, [a, b, c] => some (.find a b c)
  | 20, [a] => some (.kept a)
  | 21, [a, b] => some (.same a b)
  | _, _ => none
theorem step_call {p : Int} {n : Nat} {args : List Int} (hm : (p, n) ∈ sizes) (hl : args.length = n) : ∃ cl, mkCall p.toNat (args.map Int.toNat) = some cl ∧ ∀ h : House, Sq36Neutral.step h (PySq36.whole [p :: args]) = ((h.step cl).1, (h.step cl).2.value :: (h.step cl).2.out) := by
  unfold sizes at hm
  simp only [List.mem_cons, Prod.mk.injEq, List.not_mem_nil, or_false] at hm
  rcases hm with h | h | h | h | h | h | h | h | h | h | h | h | h | h | h | h | h | h | h | h | h <;> obtain ⟨rfl, rfl⟩ := h
  · match args, hl with
    | [a], _ => exact ⟨_, rfl, fun h => rfl⟩
  · match args, hl with
    | [a, b, c], _ => exact ⟨_, rfl, fun h => rfl⟩
  · match args, hl with
    | [a, b, c, d], _ => exact ⟨_, rfl, fun h => rfl⟩
  · match args, hl with
    | [a, b, c, d], _ => exact ⟨_, rfl, fun h => rfl⟩
  · match args, hl with
    | [a, b, c], _ => exact ⟨_, rfl, fun h => rfl⟩
  · match args, hl with
    | [a, b, c], _ => exact ⟨_, rfl, fun h => rfl⟩
  · match args, hl with
    | [a, b, c], _ => exact ⟨_, rfl, fun h => rfl⟩
  · match args, hl with
    | [a, b], _ => exact ⟨_, rfl, fun h => rfl⟩
  · match args, hl with
    | [a], _ => exact ⟨_, rfl, fun h => rfl⟩
  · match args, hl with
    | [a], _ => exact ⟨_, rfl, fun h => rfl⟩
  · match args, hl with
    | [a, b], _ => exact ⟨_, rfl, fun h => rfl⟩
  · match args, hl with
    | [a], _ => exact ⟨_, rfl, fun h => rfl⟩
  · match args, hl with
    | [a], _ => exact ⟨_, rfl, fun h => rfl⟩
  · match args, hl with
    | [a, b], _ => exact ⟨_, rfl, fun h => rfl⟩
  · match args, hl with
    | [a, b], _ => exact ⟨_, rfl, fun h => rfl⟩
  · match args, hl with
    | [a, b], _ => exact ⟨_, rfl, fun h => rfl⟩
  · match args, hl with
    | [a, b, c], _ => exact ⟨_, rfl, fun h => rfl⟩
  · match args, hl with
    | [a, b], _ => exact ⟨_, rfl, fun h => rfl⟩
  · match args, hl with
    | [a, b, c], _ => exact ⟨_, rfl, fun h => rfl⟩
  · match args, hl with
    | [a], _ => exact ⟨_, rfl, fun h => rfl⟩
  · match args, hl with
    | [a, b], _ => exact ⟨_, rfl, fun h => rfl⟩
/-- what is told of some calls -/
def run (h : House) (cs : List (List (List Int))) : List Int := PyFlat.told (PyFlat.played Sq36Neutral.step h (cs.map PySq36.whole))
theorem run_nil (h : House) : run h [] = [] := rfl
theorem run_cons (h : House) {p : Int} {n : Nat} {args : List Int} {cs : List (List (List Int))} (hm : (p, n) ∈ sizes) (hl : args.length = n) {cl : Call} (hc : mkCall p.toNat (args.map Int.toNat) = some cl) :
    run h ([p :: args] :: cs) = ((((h.step cl).2.value :: (h.step cl).2.out).length : Nat) : Int) :: ((h.step cl).2.value :: (h.step cl).2.out) ++ run (h.step cl).1 cs := by
  obtain ⟨cl', h1, h2⟩ := step_call hm hl
  rw [hc] at h1
  cases h1
  unfold run
  rw [List.map_cons, PyFlat.played, h2 h]
  rfl
theorem answers_run {l : List Int} (ha : PySq36.answers_asked l = true) : ∃ cs, Parse l cs ∧ PySq36.answers l = run fresh cs ∧ (run fresh cs).length ≤ 10000000 := by
  unfold PySq36.answers_asked at ha
  cases e : PyFlat.calls PySq36.shape l.length l with
  | none => rw [e] at ha; cases ha
  | some raw =>
    rw [e] at ha
    simp only [Bool.and_eq_true] at ha
    have ans : PySq36.answers l = run fresh raw := by
      unfold PySq36.answers PySq36.calls
      rw [e]
      rfl
    refine ⟨raw, parse_of _ _ _ e, ans, ?_⟩
    rw [← ans]
    exact of_decide_eq_true ha.2
end Ho
end

section
/-! Below a thing, in order: enough of the first number, a pile of what's still to be told. Fields, amounts, counts. -/
set_option autoImplicit false
namespace Ho
open Sq36
theorem above_child {t : Sq28.Tree} (g : Grounded t) {x : Nat} {q : Sq28.Place} (h : Sq28.get t x = some q) : Sq28.above t x = x :: Sq28.above t q.under :=
  (Up.step h (g.above q.under)).above
theorem row_get {l : List Deed} {t : Sq28.Tree} {p : Nat} {d : Deed} (h : d ∈ row l t p) : ∃ q, Sq28.get t d.thing = some q ∧ q.under = p ∧ q.label = d.id := by
  have z := (List.mem_filter.mp h).2
  cases e : Sq28.get t d.thing with
  | none => rw [e] at z; cases z
  | some q =>
    rw [e] at z
    simp only [Bool.and_eq_true, beq_iff_eq] at z
    exact ⟨q, rfl, z.1, z.2⟩
theorem listed_fuel {l : List Deed} {t : Sq28.Tree} (g : Grounded t) : ∀ (f f' d p : Nat), t.length + 2 ≤ f + (Sq28.above t p).length → t.length + 2 ≤ f' + (Sq28.above t p).length → listed l t f d p = listed l t f' d p
  | 0, _, _, p, h, _ => absurd h (by have := (g.above p).length_le; omega)
  | _ + 1, 0, _, p, _, h => absurd h (by have := (g.above p).length_le; omega)
  | f + 1, f' + 1, d, p, h, h' => by
    show (row l t p).flatMap _ = (row l t p).flatMap _
    refine flatMap_congr' fun e he => ?_
    obtain ⟨q, e1, e2, _⟩ := row_get he
    have z := congrArg List.length (above_child g e1)
    rw [e2] at z
    simp only [List.length_cons] at z
    exact congrArg _ (listed_fuel g f f' (d + 1) e.thing (by omega) (by omega))
/-- All within something, each with how deep, if what lies right in it lies so deep. -/
def sub (l : List Deed) (t : Sq28.Tree) (d p : Nat) : List (Nat × Nat) := listed l t (t.length + 1) d p
theorem within_sub (l : List Deed) (p : Nat) : within l p = sub l (treeOf l) 1 p := rfl
theorem sub_eq {l : List Deed} {t : Sq28.Tree} (g : Grounded t) (d p : Nat) : sub l t d p = (row l t p).flatMap fun e => (e.thing, d) :: sub l t (d + 1) e.thing := by
  show (row l t p).flatMap _ = _
  refine flatMap_congr' fun e he => ?_
  obtain ⟨q, e1, e2, _⟩ := row_get he
  have z := congrArg List.length (above_child g e1)
  rw [e2] at z
  simp only [List.length_cons] at z
  obtain ⟨r, y⟩ := (g.above p).head
  have y' := congrArg List.length y
  simp only [List.length_cons] at y'
  exact congrArg _ (listed_fuel g _ _ (d + 1) e.thing (by omega) (by omega))
/-- A pile of things with how deep: all that's still to be told of it. -/
def piled (l : List Deed) (t : Sq28.Tree) (st : List (Nat × Nat)) : List (Nat × Nat) := st.flatMap fun y => y :: sub l t (y.2 + 1) y.1
def kids (l : List Deed) (t : Sq28.Tree) (d p : Nat) : List (Nat × Nat) := (row l t p).map fun e => (e.thing, d)
theorem sub_piled {l : List Deed} {t : Sq28.Tree} (g : Grounded t) (d p : Nat) : sub l t d p = piled l t (kids l t d p) := by
  rw [sub_eq g]; unfold piled kids; rw [List.flatMap_map]
theorem piled_nil (l : List Deed) (t : Sq28.Tree) : piled l t [] = [] := rfl
theorem piled_cons {l : List Deed} {t : Sq28.Tree} (g : Grounded t) (y : Nat × Nat) (st : List (Nat × Nat)) : piled l t (y :: st) = y :: piled l t (kids l t (y.2 + 1) y.1 ++ st) := by
  unfold piled
  rw [List.flatMap_cons, List.flatMap_append, List.cons_append]
  congr 2
  exact sub_piled g _ _
theorem piled_app (l : List Deed) (t : Sq28.Tree) (a b : List (Nat × Nat)) : piled l t (a ++ b) = piled l t a ++ piled l t b := List.flatMap_append
/-- A deed about a field of a thing. -/
def isAbout (x f : Nat) (d : Deed) : Bool := match d.act with
  | .tell y g _ => y == x && g == f
  | .clear y g => y == x && g == f
  | _ => false
def told? (d : Deed) : Option Nat := match d.act with
  | .tell _ _ v => some v
  | _ => none
theorem values_about (l : List Deed) (x f : Nat) :
    values l x f = (((held l).filter (isAbout x f)).filter fun d => (told? d).isSome && !(((held l).filter (isAbout x f)).any fun e => saw e d)).map fun d => (d, (told? d).getD 0) := by
  have k : ∀ d : Deed, ((held l).any fun e => saw e d && isAbout x f e) = (((held l).filter (isAbout x f)).any fun e => saw e d) := by
    intro d
    rw [List.any_filter]
    congr 1
    funext e
    rw [Bool.and_comm]
  show (held l).filterMap (fun d => match d.act with
    | .tell y g v => if y = x ∧ g = f ∧ ((held l).any fun e => saw e d && isAbout x f e) = false then some (d, v) else none
    | _ => none) = _
  simp only [k]
  generalize ((held l).filter (isAbout x f)).any = P
  rw [List.filter_filter, ← List.filterMap_eq_map, List.filterMap_filter]
  congr 1
  funext d
  unfold isAbout told?
  cases e : d.act <;> simp [e]
  grind
def addOf? (x : Nat) (d : Deed) : Bool := match d.act with
  | .add y _ => y == x
  | _ => false
def amt (d : Deed) : Int := match d.act with
  | .add _ v => v
  | _ => 0
theorem amount_adds (l : List Deed) (x : Nat) : amount l x = (((held l).filter (addOf? x)).map amt).sum := by
  unfold amount
  rw [← List.filterMap_eq_map, List.filterMap_filter]
  congr 2
  funext d
  unfold addOf? amt
  cases e : d.act <;> simp [e]
/-- How many a desk has had. -/
theorem sum_set_range {n : Nat} : ∀ (f : Nat → Nat) (k : Nat), k < n → ((List.range n).map fun j => if j = k then f j + 1 else f j).sum = ((List.range n).map f).sum + 1 := by
  induction n with
  | zero => intro f k h; omega
  | succ n ih =>
    intro f k h
    rw [List.range_succ, List.map_append, List.map_append, List.sum_append_nat, List.sum_append_nat]
    simp only [List.map_cons, List.map_nil, List.sum_cons, List.sum_nil]
    by_cases e : k = n
    · subst e
      have z : ((List.range k).map fun j => if j = k then f j + 1 else f j) = (List.range k).map f := by
        refine List.map_congr_left fun j hj => ?_
        have := List.mem_range.mp hj
        rw [if_neg (by omega)]
      rw [z, if_pos rfl]; omega
    · rw [ih f k (by omega), if_neg (by omega)]; omega
theorem count_was_min {n : Nat} (c : Counts) : ∀ (m : Nat) (all : List Deed), all.length = m → (∀ d ∈ all, d.stamp.hand < n) → (∀ (pre : List Deed) (d : Deed) (post : List Deed), all = pre ++ d :: post → d.n = cnt pre d.stamp.hand + 1) →
    (all.filter (was c)).length = ((List.range n).map fun j => min (at_ c j) (cnt all j)).sum
  | 0, all, e, _, _ => by
    have z : all = [] := List.eq_nil_of_length_eq_zero e
    subst z
    have y : ((List.range n).map fun j => min (at_ c j) (cnt [] j)) = (List.range n).map fun _ => 0 := List.map_congr_left fun j _ => by
      show min _ 0 = 0
      omega
    rw [y]
    show 0 = _
    clear y
    induction n with
    | zero => rfl
    | succ n ih => rw [List.range_succ, List.map_append, List.sum_append_nat, ← ih (by intro d h; cases h)]; rfl
  | m + 1, all, e, hh, hn => by
    have ne : all ≠ [] := by intro z; rw [z] at e; cases e
    obtain ⟨pre, d, z⟩ : ∃ pre d, all = pre ++ [d] := ⟨_, _, (List.dropLast_concat_getLast ne).symm⟩
    subst z
    have ih := count_was_min (n := n) c m pre (by simp at e; exact e) (fun x hx => hh x (List.mem_append_left _ hx)) (fun a x b q => hn a x (b ++ [d]) (by rw [q]; simp))
    have nd := hn pre d [] rfl
    have hd := hh d (by simp)
    rw [List.filter_append, List.length_append, ih]
    by_cases w : was c d = true
    · have w' : d.n ≤ at_ c d.stamp.hand := of_decide_eq_true w
      have y : ((List.range n).map fun j => min (at_ c j) (cnt (pre ++ [d]) j)) = ((List.range n).map fun j => if j = d.stamp.hand then min (at_ c j) (cnt pre j) + 1 else min (at_ c j) (cnt pre j)) := by
        refine List.map_congr_left fun j _ => ?_
        rw [cnt_append, cnt_one]
        by_cases q : j = d.stamp.hand
        · subst q; rw [if_pos rfl, if_pos rfl]; omega
        · rw [if_neg q, if_neg (Ne.symm q)]; rfl
      rw [y, sum_set_range (fun j => min (at_ c j) (cnt pre j)) _ hd, List.filter_cons_of_pos w]
      rfl
    · have w' : ¬ d.n ≤ at_ c d.stamp.hand := fun z => w (decide_eq_true z)
      have y : ((List.range n).map fun j => min (at_ c j) (cnt (pre ++ [d]) j)) = ((List.range n).map fun j => min (at_ c j) (cnt pre j)) := by
        refine List.map_congr_left fun j _ => ?_
        rw [cnt_append, cnt_one]
        by_cases q : j = d.stamp.hand
        · subst q; rw [if_pos rfl]; omega
        · rw [if_neg (Ne.symm q)]; rfl
      rw [y, List.filter_cons_of_neg w]
      rfl
theorem count_was {n : Nat} {all : List Deed} (o : DeedsOk n all) {c : Counts} (hc : ∀ j, at_ c j ≤ cnt all j) : (all.filter (was c)).length = ((List.range n).map (at_ c)).sum := by
  rw [count_was_min c _ all rfl o.hand o.num]
  congr 1
  exact List.map_congr_left fun j _ => Nat.min_eq_left (hc j)
theorem Ok.had_length {h : House} (o : Ok h) {k : Nat} (hk : k < h.hands) : (h.had k).length = ((List.range h.hands).map (at_ (h.desk k).has)).sum :=
  (o.had_perm k).length_eq.trans (count_was o.deeds (o.deskOk hk).has.le)
theorem range_at (c : Counts) : (List.range c.length).map (at_ c) = c := by
  refine List.ext_getElem (by simp) fun i h1 h2 => ?_
  simp only [List.getElem_map, List.getElem_range]
  unfold at_
  rw [List.getElem?_eq_getElem h2]; rfl
theorem Ok.had_sum {h : House} (o : Ok h) {k : Nat} (hk : k < h.hands) : (h.had k).length = (h.desk k).has.sum := by
  have z := o.had_length hk
  rw [← (o.deskOk hk).has.len, range_at] at z
  exact z
end Ho
end

section
/-! What a desk has forgotten: whatever it hears of later has a later stamp. -/
set_option autoImplicit false
namespace Ho
open Sq36
theorem settled_fold (k : Nat) (g : Nat → Nat) (n : Nat) : ∀ (l : List Nat) (i : Nat), n ≤ l.foldl (fun (m : Nat) j => if j = k then m else min m (g j)) i ↔ n ≤ i ∧ ∀ j ∈ l, j ≠ k → n ≤ g j
  | [], i => by simp
  | a :: l, i => by
    rw [List.foldl_cons, settled_fold k g n l]
    by_cases e : a = k
    · rw [if_pos e]
      constructor
      · rintro ⟨h1, h2⟩
        refine ⟨h1, fun j hj nj => ?_⟩
        rcases List.mem_cons.mp hj with rfl | hj
        · exact absurd e nj
        · exact h2 j hj nj
      · rintro ⟨h1, h2⟩
        exact ⟨h1, fun j hj nj => h2 j (List.mem_cons_of_mem _ hj) nj⟩
    · rw [if_neg e]
      constructor
      · rintro ⟨h1, h2⟩
        refine ⟨by omega, fun j hj nj => ?_⟩
        rcases List.mem_cons.mp hj with rfl | hj
        · omega
        · exact h2 j hj nj
      · rintro ⟨h1, h2⟩
        have := h2 a List.mem_cons_self e
        exact ⟨by omega, fun j hj nj => h2 j (List.mem_cons_of_mem _ hj) nj⟩
theorem le_settled {h : House} {k n : Nat} : n ≤ h.settled k ↔ n ≤ (h.desk k).clock ∧ ∀ j, j < h.hands → j ≠ k → n ≤ at_ (h.desk k).heard j := by
  unfold House.settled
  rw [settled_fold]
  constructor
  · rintro ⟨h1, h2⟩; exact ⟨h1, fun j hj => h2 j (List.mem_range.mpr hj)⟩
  · rintro ⟨h1, h2⟩; exact ⟨h1, fun j hj => h2 j (List.mem_range.mp hj)⟩
/-- the first ones stay the first ones where only later ones come -/
theorem take_same : ∀ (g : Nat) {A B : List Deed}, Rising A → Rising B → (∀ x ∈ A, x ∈ B) → g ≤ A.length → (∀ x ∈ B, x ∉ A → ∀ d ∈ A.take g, d.stamp.before x.stamp = true) → B.take g = A.take g
  | 0, _, _, _, _, _, _, _ => rfl
  | g + 1, [], _, _, _, _, hg, _ => absurd hg (by simp)
  | g + 1, a :: A, [], _, _, hs, _, _ => absurd (hs a List.mem_cons_self) List.not_mem_nil
  | g + 1, a :: A, b :: B, ra, rb, hs, hg, hl => by
    have ra' := List.pairwise_cons.mp ra
    have rb' := List.pairwise_cons.mp rb
    have e : b = a := by
      rcases List.mem_cons.mp (hs a List.mem_cons_self) with z | hab
      · exact z.symm
      · have h1 := rb'.1 a hab
        by_cases hb : b ∈ a :: A
        · rcases List.mem_cons.mp hb with z | hb
          · exact z
          · exact absurd (before_trans h1 (ra'.1 b hb)) before_irrefl
        · exact absurd (before_trans h1 (hl b List.mem_cons_self hb a (by rw [List.take_succ_cons]; exact List.mem_cons_self))) before_irrefl
    subst e
    rw [List.take_succ_cons, List.take_succ_cons, take_same g ra'.2 rb'.2 (fun x hx => ?_) (by simp at hg; exact hg) fun x hx nx d hd => ?_]
    · rcases List.mem_cons.mp (hs x (List.mem_cons_of_mem _ hx)) with z | z
      · subst z; exact absurd (ra'.1 x hx) before_irrefl
      · exact z
    · refine hl x (List.mem_cons_of_mem _ hx) (fun z => ?_) d (by rw [List.take_succ_cons]; exact List.mem_cons_of_mem _ hd)
      rcases List.mem_cons.mp z with z | z
      · subst z; exact absurd (rb'.1 x hx) before_irrefl
      · exact nx z
structure Late (h : House) : Prop where
  letter : ∀ m ∈ h.letters, ∀ e ∈ h.all, e.stamp.hand = m.from_ → was m.has e = false → m.clock < e.stamp.count
  lclock : ∀ m ∈ h.letters, m.clock ≤ (h.desk m.from_).clock
  heard : ∀ k, k < h.hands → ∀ e ∈ h.all, was (h.desk k).has e = false → at_ (h.desk k).heard e.stamp.hand < e.stamp.count
  hclock : ∀ k, k < h.hands → ∀ j, j < h.hands → at_ (h.desk k).heard j ≤ (h.desk j).clock
  len : ∀ k, k < h.hands → (h.desk k).gone ≤ (h.had k).length
  gone : ∀ k, k < h.hands → ∀ d ∈ (h.had k).take (h.desk k).gone, d.stamp.count + LATE ≤ h.settled k
theorem desk_new {n k : Nat} (hk : k < n) : (new n).desk k = desk0 n := by
  show ((List.replicate n (desk0 n))[k]?).getD _ = _
  rw [List.getElem?_replicate, if_pos hk]; rfl
theorem late_new (n : Nat) : Late (new n) where
  letter := fun m hm => by cases hm
  lclock := fun m hm => by cases hm
  heard := fun k hk e he => by cases he
  hclock := fun k hk j hj => by
    rw [desk_new (n := n) hk]
    show at_ (List.replicate n 0) j ≤ _
    rw [at_replicate]; exact Nat.zero_le _
  len := fun k hk => by rw [desk_new (n := n) hk]; exact Nat.zero_le _
  gone := fun k hk d hd => by
    rw [desk_new (n := n) hk] at hd
    simp [desk0] at hd
theorem desk_set {h : House} (o : Ok h) {k j : Nat} (hk : k < h.hands) (x : Desk) : (h.set k x).desk j = if j = k then x else h.desk j := by
  show ((h.desks.set k x)[j]?).getD (desk0 0) = _
  rw [List.getElem?_set]
  by_cases e : k = j
  · subst e
    rw [if_pos rfl, if_pos (by rw [o.desks]; exact hk), if_pos rfl]; rfl
  · rw [if_neg e, if_neg (fun z => e z.symm)]; rfl
theorem had_of_desk {h h' : House} (ea : h'.all = h.all) {k : Nat} (e : (h'.desk k).has = (h.desk k).has) : h'.had k = h.had k := by
  unfold House.had
  rw [ea, e]
theorem settled_of_desk {h h' : House} (eh : h'.hands = h.hands) {k : Nat} (e1 : (h'.desk k).heard = (h.desk k).heard) (e2 : (h'.desk k).clock = (h.desk k).clock) : h'.settled k = h.settled k := by
  unfold House.settled
  rw [eh, e1, e2]
/-! ### a deed is done -/
section
variable {h : House} {k : Nat} {a : Act}
theorem does_desk (o : Ok h) (hk : k < h.hands) (j : Nat) : (h.does k a).desk j = if j = k then { h.desk k with has := (h.desk k).has.set k (at_ (h.desk k).has k + 1), clock := (h.desk k).clock + 1 } else h.desk j := by
  show ((h.desks.set k { h.desk k with has := (h.desk k).has.set k (at_ (h.desk k).has k + 1), clock := (h.desk k).clock + 1 })[j]?).getD (desk0 0) = _
  rw [List.getElem?_set]
  by_cases e : k = j
  · subst e
    rw [if_pos rfl, if_pos (by rw [o.desks]; exact hk), if_pos rfl]; rfl
  · rw [if_neg e, if_neg (fun z => e z.symm)]; rfl
theorem does_clock (o : Ok h) (hk : k < h.hands) (j : Nat) : (h.desk j).clock ≤ ((h.does k a).desk j).clock := by
  rw [does_desk o hk]
  by_cases e : j = k
  · subst e; rw [if_pos rfl]; show _ ≤ (h.desk j).clock + 1; omega
  · rw [if_neg e]; exact Nat.le_refl _
theorem does_heard (o : Ok h) (hk : k < h.hands) (j : Nat) : ((h.does k a).desk j).heard = (h.desk j).heard := by
  rw [does_desk o hk]
  by_cases e : j = k
  · subst e; rw [if_pos rfl]
  · rw [if_neg e]
theorem does_gone (o : Ok h) (hk : k < h.hands) (j : Nat) : ((h.does k a).desk j).gone = (h.desk j).gone := by
  rw [does_desk o hk]
  by_cases e : j = k
  · subst e; rw [if_pos rfl]
  · rw [if_neg e]
theorem does_was (o : Ok h) (hk : k < h.hands) (j : Nat) {d : Deed} (hd : was (h.desk j).has d = true) : was ((h.does k a).desk j).has d = true := by
  rw [does_desk o hk]
  by_cases e : j = k
  · subst e
    rw [if_pos rfl]
    have w := of_decide_eq_true hd
    refine decide_eq_true ?_
    show d.n ≤ at_ ((h.desk j).has.set j (at_ (h.desk j).has j + 1)) d.stamp.hand
    rw [at_set _ _ _ _ (by rw [(o.deskOk hk).has.len]; exact hk)]
    split
    · rename_i c; rw [c] at w; omega
    · exact w
  · rw [if_neg e]; exact hd
theorem does_mem (o : Ok h) (on : Ok (h.does k a)) (hk : k < h.hands) {j : Nat} {d : Deed} (hd : d ∈ h.had j) : d ∈ (h.does k a).had j := by
  have m := o.mem_had.mp hd
  exact on.mem_had.mpr ⟨List.mem_append.mpr (.inl m.1), does_was o hk j m.2⟩
/-- what is new to a desk behind a deed is that deed, at its own desk -/
theorem does_new (o : Ok h) (on : Ok (h.does k a)) (hk : k < h.hands) {j : Nat} (hj : j < h.hands) {x : Deed} (hx : x ∈ (h.does k a).had j) (nx : x ∉ h.had j) : j = k ∧ x.stamp.count = (h.desk k).clock + 1 := by
  have m := on.mem_had.mp hx
  have D := o.deskOk hj
  rcases List.mem_append.mp m.1 with hm | hm
  · exfalso
    refine nx (o.mem_had.mpr ⟨hm, ?_⟩)
    have w := m.2
    rw [does_desk o hk] at w
    by_cases e : j = k
    · subst e
      rw [if_pos rfl] at w
      have w' : x.n ≤ at_ ((h.desk j).has.set j (at_ (h.desk j).has j + 1)) x.stamp.hand := of_decide_eq_true w
      rw [at_set _ _ _ _ (by rw [D.has.len]; exact hk)] at w'
      refine decide_eq_true ?_
      by_cases q : x.stamp.hand = j
      · rw [q, D.own, ← q]; exact o.deeds.num_le hm
      · rw [if_neg q] at w'; exact w'
    · rw [if_neg e] at w; exact w
  · have e := List.mem_singleton.mp hm
    subst e
    refine ⟨?_, rfl⟩
    by_cases e : j = k
    · exact e
    · exfalso
      have w := m.2
      rw [does_desk o hk, if_neg e] at w
      have w' : at_ (h.desk k).has k + 1 ≤ at_ (h.desk j).has k := of_decide_eq_true w
      have := D.has.le k
      rw [(o.deskOk hk).own] at w'
      omega
theorem does_take (o : Ok h) (on : Ok (h.does k a)) (l : Late h) (hk : k < h.hands) {j : Nat} (hj : j < h.hands) : ((h.does k a).had j).take (h.desk j).gone = (h.had j).take (h.desk j).gone := by
  refine take_same _ (o.had_rising j) (on.had_rising j) (fun x hx => does_mem o on hk hx) (l.len j hj) fun x hx nx d hd => ?_
  obtain ⟨e, q⟩ := does_new o on hk hj hx nx
  subst e
  have := o.had_count hj (List.mem_of_mem_take hd)
  exact before_iff.mpr (.inl (by omega))
theorem len_le_of_sub (o : Ok h) {h' : House} (o' : Ok h') {j : Nat} (s : ∀ x ∈ h.had j, x ∈ h'.had j) : (h.had j).length ≤ (h'.had j).length := by
  refine length_le_of_sub ?_ s
  have := (o.had_rising j).nodup
  exact List.Pairwise.of_map _ (fun a b hab e => hab (by rw [e])) this
theorem Late.does (l : Late h) (o : Ok h) (on : Ok (h.does k a)) (hk : k < h.hands) : Late (h.does k a) where
  letter := fun m hm e he hh hw => by
    rcases List.mem_append.mp he with he | he
    · exact l.letter m hm e he hh hw
    · have z := List.mem_singleton.mp he
      subst z
      have hh' : k = m.from_ := hh
      have := l.lclock m hm
      rw [← hh'] at this
      show m.clock < (h.desk k).clock + 1
      omega
  lclock := fun m hm => Nat.le_trans (l.lclock m hm) (does_clock o hk _)
  heard := fun j hj e he hw => by
    have hj' : j < h.hands := hj
    rw [does_heard o hk]
    rcases List.mem_append.mp he with he | he
    · refine l.heard j hj' e he ?_
      cases z : was (h.desk j).has e with
      | false => rfl
      | true => rw [does_was o hk j z] at hw; cases hw
    · have z := List.mem_singleton.mp he
      subst z
      have := l.hclock j hj' k hk
      show at_ (h.desk j).heard k < (h.desk k).clock + 1
      omega
  hclock := fun j hj i hi => by
    rw [does_heard o hk]
    exact Nat.le_trans (l.hclock j hj i hi) (does_clock o hk _)
  len := fun j hj => by
    rw [does_gone o hk]
    exact Nat.le_trans (l.len j hj) (len_le_of_sub o on fun x hx => does_mem o on hk hx)
  gone := fun j hj d hd => by
    rw [does_gone o hk, does_take o on l hk hj] at hd
    have z := le_settled.mp (l.gone j hj d hd)
    refine le_settled.mpr ⟨Nat.le_trans z.1 (does_clock o hk _), fun i hi ni => ?_⟩
    rw [does_heard o hk]
    exact z.2 i hi ni
end
/-! ### a letter -/
theorem Late.send {h : House} (l : Late h) (o : Ok h) {k j : Nat} (hk : k < h.hands) : Late { h with letters := h.letters ++ [⟨k, j, (h.desk k).has, (h.desk k).clock⟩] } where
  letter := fun m hm e he hh hw => by
    rcases List.mem_append.mp hm with hm | hm
    · exact l.letter m hm e he hh hw
    · exfalso
      have z := List.mem_singleton.mp hm
      subst z
      have hh' : e.stamp.hand = k := hh
      have he' : e ∈ h.all := he
      have : was (h.desk k).has e = true := decide_eq_true (by rw [hh', (o.deskOk hk).own, ← hh']; exact o.deeds.num_le he')
      have hw' : was (h.desk k).has e = false := hw
      rw [this] at hw'; cases hw'
  lclock := fun m hm => by
    rcases List.mem_append.mp hm with hm | hm
    · exact l.lclock m hm
    · have z := List.mem_singleton.mp hm
      subst z
      exact Nat.le_refl _
  heard := l.heard
  hclock := l.hclock
  len := l.len
  gone := l.gone
/-- the house behind a letter that came -/
def came (h : House) (m : Letter) : House := h.set m.to { h.desk m.to with has := most (h.desk m.to).has m.has, clock := max (h.desk m.to).clock m.clock, sure := (h.desk m.to).sure.set m.from_ (most (((h.desk m.to).sure[m.from_]?).getD []) m.has), heard := (h.desk m.to).heard.set m.from_ (max (Sq36.at_ (h.desk m.to).heard m.from_) m.clock) }
section
variable {h : House} {m : Letter}
theorem came_desk (o : Ok h) (ht : m.to < h.hands) (j : Nat) : (came h m).desk j = if j = m.to then { h.desk m.to with has := most (h.desk m.to).has m.has, clock := max (h.desk m.to).clock m.clock, sure := (h.desk m.to).sure.set m.from_ (most (((h.desk m.to).sure[m.from_]?).getD []) m.has), heard := (h.desk m.to).heard.set m.from_ (max (Sq36.at_ (h.desk m.to).heard m.from_) m.clock) } else h.desk j := desk_set o ht _
theorem came_clock (o : Ok h) (ht : m.to < h.hands) (j : Nat) : (h.desk j).clock ≤ ((came h m).desk j).clock := by
  rw [came_desk o ht]
  by_cases e : j = m.to
  · rw [if_pos e, e]; exact Nat.le_max_left _ _
  · rw [if_neg e]; exact Nat.le_refl _
theorem came_gone (o : Ok h) (ht : m.to < h.hands) (j : Nat) : ((came h m).desk j).gone = (h.desk j).gone := by
  rw [came_desk o ht]
  by_cases e : j = m.to
  · rw [if_pos e, e]
  · rw [if_neg e]
theorem came_heard (o : Ok h) (hm : m ∈ h.letters) (j i : Nat) : at_ ((came h m).desk j).heard i = if j = m.to ∧ i = m.from_ then max (at_ (h.desk j).heard i) m.clock else at_ (h.desk j).heard i := by
  have L := o.letters m hm
  rw [came_desk o L.dst]
  by_cases e : j = m.to
  · rw [if_pos e]
    show at_ ((h.desk m.to).heard.set m.from_ _) i = _
    rw [at_set _ _ _ _ (by rw [(o.deskOk L.dst).heard]; exact L.src)]
    by_cases q : i = m.from_
    · rw [if_pos q, if_pos ⟨e, q⟩, e, q]
    · rw [if_neg q, if_neg (fun z => q z.2), e]
  · rw [if_neg e, if_neg (fun z => e z.1)]
theorem came_was (o : Ok h) (hm : m ∈ h.letters) (j : Nat) {d : Deed} (hd : d ∈ h.all) (w : was (h.desk j).has d = true) : was ((came h m).desk j).has d = true := by
  have L := o.letters m hm
  rw [came_desk o L.dst]
  by_cases e : j = m.to
  · rw [if_pos e]
    rw [e] at w
    have w' := of_decide_eq_true w
    refine decide_eq_true ?_
    show d.n ≤ at_ (most (h.desk m.to).has m.has) d.stamp.hand
    rw [at_most _ _ _ (by rw [(o.deskOk L.dst).has.len]; exact o.deeds.hand d hd)]
    omega
  · rw [if_neg e]; exact w
theorem came_mem (o : Ok h) (hm : m ∈ h.letters) {j : Nat} {d : Deed} (hd : d ∈ h.had j) : d ∈ (came h m).had j := by
  have z := o.mem_had.mp hd
  exact (o.comes hm).mem_had.mpr ⟨z.1, came_was o hm j z.1 z.2⟩
theorem came_take (o : Ok h) (l : Late h) (hm : m ∈ h.letters) {j : Nat} (hj : j < h.hands) : ((came h m).had j).take (h.desk j).gone = (h.had j).take (h.desk j).gone := by
  refine take_same _ (o.had_rising j) ((o.comes hm).had_rising j) (fun x hx => came_mem o hm hx) (l.len j hj) fun x hx nx d hd => ?_
  have z := (o.comes hm).mem_had.mp hx
  have z1 : x ∈ h.all := z.1
  have nw : was (h.desk j).has x = false := by
    cases w : was (h.desk j).has x with
    | false => rfl
    | true => exact absurd (o.mem_had.mpr ⟨z1, w⟩) nx
  have nh : x.stamp.hand ≠ j := fun e => by
    have : was (h.desk j).has x = true := decide_eq_true (by rw [e, (o.deskOk hj).own, ← e]; exact o.deeds.num_le z1)
    rw [this] at nw; cases nw
  have s := (le_settled.mp (l.gone j hj d hd)).2 x.stamp.hand (o.deeds.hand x z1) nh
  have := l.heard j hj x z1 nw
  exact before_iff.mpr (.inl (by omega))
theorem Late.came (l : Late h) (o : Ok h) (hm : m ∈ h.letters) : Late (came h m) where
  letter := l.letter
  lclock := fun m' hm' => Nat.le_trans (l.lclock m' hm') (came_clock o (o.letters m hm).dst _)
  heard := fun j hj e he hw => by
    have hj' : j < h.hands := hj
    have he' : e ∈ h.all := he
    have nw : was (h.desk j).has e = false := by
      cases z : was (h.desk j).has e with
      | false => rfl
      | true => rw [came_was o hm j he' z] at hw; cases hw
    have b := l.heard j hj' e he' nw
    rw [came_heard o hm]
    split
    · rename_i c
      have nm : was m.has e = false := by
        cases z : was m.has e with
        | false => rfl
        | true =>
          exfalso
          have L := o.letters m hm
          rw [came_desk o L.dst, if_pos c.1] at hw
          have z' := of_decide_eq_true z
          have : was (most (h.desk m.to).has m.has) e = true := by
            refine decide_eq_true ?_
            rw [at_most _ _ _ (by rw [(o.deskOk L.dst).has.len]; exact o.deeds.hand e he')]
            omega
          rw [this] at hw; cases hw
      have := l.letter m hm e he' c.2 nm
      omega
    · exact b
  hclock := fun j hj i hi => by
    rw [came_heard o hm]
    refine Nat.le_trans ?_ (came_clock o (o.letters m hm).dst i)
    have := l.hclock j hj i hi
    split
    · rename_i c
      have := l.lclock m hm
      rw [← c.2] at this
      omega
    · exact this
  len := fun j hj => by
    rw [came_gone o (o.letters m hm).dst]
    exact Nat.le_trans (l.len j hj) (len_le_of_sub o (o.comes hm) fun x hx => came_mem o hm hx)
  gone := fun j hj d hd => by
    rw [came_gone o (o.letters m hm).dst, came_take o l hm hj] at hd
    have z := le_settled.mp (l.gone j hj d hd)
    refine le_settled.mpr ⟨Nat.le_trans z.1 (came_clock o (o.letters m hm).dst _), fun i hi ni => ?_⟩
    have := z.2 i hi ni
    rw [came_heard o hm]
    split <;> omega
theorem came_step (h : House) (i : Nat) (m : Letter) (e : h.letters[i]? = some m) : h.step (.comes i) = (came h m, says (((came h m).had m.to).length - (h.had m.to).length : Nat)) := by
  simp only [House.step, e]
  rfl
theorem came_sum (o : Ok h) (hm : m ∈ h.letters) : ((((came h m).had m.to).length - (h.had m.to).length : Nat) : Int) = (((most (h.desk m.to).has m.has).sum : Nat) : Int) - (((h.desk m.to).has.sum : Nat) : Int) := by
  have L := o.letters m hm
  have h1 := o.had_sum L.dst
  have h2 := (o.comes hm).had_sum (k := m.to) L.dst
  have e : ((came h m).desk m.to).has = most (h.desk m.to).has m.has := by rw [came_desk o L.dst, if_pos rfl]
  have h2' : ((came h m).had m.to).length = ((came h m).desk m.to).has.sum := h2
  rw [e] at h2'
  have h3 := len_le_of_sub o (o.comes hm) (j := m.to) fun x hx => came_mem o hm hx
  have h3' : (h.had m.to).length ≤ ((came h m).had m.to).length := h3
  omega
end
/-! ### forgetting -/
/-- the house behind a forgetting -/
def forgot (h : House) (k : Nat) : House := h.set k { h.desk k with gone := (h.desk k).gone + (h.ripe k).length }
theorem forgot_desk {h : House} (o : Ok h) {k : Nat} (hk : k < h.hands) (j : Nat) : (forgot h k).desk j = if j = k then { h.desk k with gone := (h.desk k).gone + (h.ripe k).length } else h.desk j := desk_set o hk _
theorem forgot_has {h : House} (o : Ok h) {k : Nat} (hk : k < h.hands) (j : Nat) : ((forgot h k).desk j).has = (h.desk j).has ∧ ((forgot h k).desk j).heard = (h.desk j).heard ∧ ((forgot h k).desk j).clock = (h.desk j).clock ∧ ((forgot h k).desk j).sure = (h.desk j).sure := by
  rw [forgot_desk o hk]
  by_cases e : j = k
  · rw [if_pos e, e]; exact ⟨rfl, rfl, rfl, rfl⟩
  · rw [if_neg e]; exact ⟨rfl, rfl, rfl, rfl⟩
theorem forgot_had {h : House} (o : Ok h) {k : Nat} (hk : k < h.hands) (j : Nat) : (forgot h k).had j = h.had j := had_of_desk (h := h) (h' := forgot h k) rfl (forgot_has o hk j).1
theorem forgot_settled {h : House} (o : Ok h) {k : Nat} (hk : k < h.hands) (j : Nat) : (forgot h k).settled j = h.settled j := settled_of_desk (h := h) (h' := forgot h k) rfl (forgot_has o hk j).2.1 (forgot_has o hk j).2.2.1
theorem takeWhile_take {α : Type} (p : α → Bool) : ∀ l : List α, l.takeWhile p = l.take (l.takeWhile p).length
  | [] => rfl
  | a :: l => by
    by_cases c : p a = true
    · rw [List.takeWhile_cons_of_pos c, List.length_cons, List.take_succ_cons, ← takeWhile_take p l]
    · rw [List.takeWhile_cons_of_neg c]; rfl
theorem ripe_take (h : House) (k : Nat) : (h.had k).take ((h.desk k).gone + (h.ripe k).length) = (h.had k).take (h.desk k).gone ++ h.ripe k := by
  rw [List.take_add]
  congr 1
  exact (takeWhile_take _ _).symm
theorem ripe_len (h : House) (k : Nat) : (h.ripe k).length ≤ (h.kept k).length := (List.takeWhile_sublist _).length_le
theorem mem_takeWhile {α : Type} {p : α → Bool} {x : α} : ∀ {l : List α}, x ∈ l.takeWhile p → p x = true
  | [], h => by cases h
  | a :: l, h => by
    by_cases c : p a = true
    · rw [List.takeWhile_cons_of_pos c] at h
      rcases List.mem_cons.mp h with rfl | h
      · exact c
      · exact mem_takeWhile h
    · rw [List.takeWhile_cons_of_neg c] at h; cases h
theorem Late.forgot {h : House} (l : Late h) (o : Ok h) {k : Nat} (hk : k < h.hands) : Late (forgot h k) where
  letter := l.letter
  lclock := fun m hm => by rw [(forgot_has o hk _).2.2.1]; exact l.lclock m hm
  heard := fun j hj e he hw => by
    rw [(forgot_has o hk j).2.1]
    rw [(forgot_has o hk j).1] at hw
    exact l.heard j hj e he hw
  hclock := fun j hj i hi => by
    rw [(forgot_has o hk j).2.1, (forgot_has o hk i).2.2.1]
    exact l.hclock j hj i hi
  len := fun j hj => by
    rw [forgot_had o hk, forgot_desk o hk]
    by_cases e : j = k
    · subst e
      rw [if_pos rfl]
      show (h.desk j).gone + (h.ripe j).length ≤ _
      have h1 := ripe_len h j
      have h2 := l.len j hj
      unfold House.kept at h1
      rw [List.length_drop] at h1
      omega
    · rw [if_neg e]; exact l.len j hj
  gone := fun j hj d hd => by
    rw [forgot_had o hk, forgot_desk o hk] at hd
    rw [forgot_settled o hk]
    by_cases e : j = k
    · subst e
      rw [if_pos rfl] at hd
      have hd' : d ∈ (h.had j).take ((h.desk j).gone + (h.ripe j).length) := hd
      rw [ripe_take] at hd'
      rcases List.mem_append.mp hd' with z | z
      · exact l.gone j hj d z
      · have q := mem_takeWhile z
        rw [Bool.and_eq_true] at q
        exact of_decide_eq_true q.2
    · rw [if_neg e] at hd; exact l.gone j hj d hd
/-- what's kept is what isn't forgotten -/
theorem kept_filter {l : List Deed} (ids : (l.map (·.id)).Nodup) (g : Nat) : l.filter (fun d => !(l.take g).any fun e => e.id == d.id) = l.drop g := by
  have ids' : ((l.take g ++ l.drop g).map (·.id)).Nodup := by rw [List.take_append_drop]; exact ids
  rw [List.map_append, List.nodup_append] at ids'
  have e0 : l.filter (fun d => !(l.take g).any fun e => e.id == d.id) = (l.take g ++ l.drop g).filter (fun d => !(l.take g).any fun e => e.id == d.id) := by rw [List.take_append_drop]
  rw [e0, List.filter_append]
  have e1 : (l.take g).filter (fun d => !(l.take g).any fun e => e.id == d.id) = [] := by
    rw [List.filter_eq_nil_iff]
    intro d hd z
    have : ((l.take g).any fun e => e.id == d.id) = true := List.any_eq_true.mpr ⟨d, hd, beq_self_eq_true _⟩
    rw [this] at z; cases z
  have e2 : (l.drop g).filter (fun d => !(l.take g).any fun e => e.id == d.id) = l.drop g := by
    rw [List.filter_eq_self]
    intro d hd
    rw [Bool.not_eq_true', List.any_eq_false]
    intro e he z
    exact ids'.2.2 e.id (List.mem_map.mpr ⟨e, he, rfl⟩) d.id (List.mem_map.mpr ⟨d, hd, rfl⟩) (eq_of_beq z)
  rw [e1, e2, List.nil_append]
/-- all others -/
def others (h : House) (k : Nat) : List Nat := (List.range h.hands).filter fun j => j != k
theorem mem_others {h : House} {k j : Nat} : j ∈ others h k ↔ j < h.hands ∧ j ≠ k := by
  unfold others
  rw [List.mem_filter, List.mem_range]
  simp
theorem others_len {h : House} {k : Nat} : (others h k).length ≤ h.hands := Nat.le_trans (List.length_filter_le _ _) (by rw [List.length_range]; exact Nat.le_refl _)
theorem settled_min {h : House} {k : Nat} {z : Int} (hm : z ∈ ((h.desk k).clock : Int) :: (others h k).map fun j => ((at_ (h.desk k).heard j : Nat) : Int)) (hl : ∀ y ∈ ((h.desk k).clock : Int) :: (others h k).map fun j => ((at_ (h.desk k).heard j : Nat) : Int), z ≤ y) : z = (h.settled k : Int) := by
  have z0 : 0 ≤ z := by
    rcases List.mem_cons.mp hm with q | q
    · omega
    · obtain ⟨j, _, e⟩ := List.mem_map.mp q; omega
  have a : z.toNat ≤ h.settled k := le_settled.mpr ⟨by have := hl _ List.mem_cons_self; omega, fun j hj nj => by
    have := hl _ (List.mem_cons_of_mem _ (List.mem_map.mpr ⟨j, mem_others.mpr ⟨hj, nj⟩, rfl⟩))
    omega⟩
  have b := le_settled.mp (Nat.le_refl (h.settled k))
  rcases List.mem_cons.mp hm with q | q
  · have := b.1; omega
  · obtain ⟨j, hj, e⟩ := List.mem_map.mp q
    obtain ⟨h1, h2⟩ := mem_others.mp hj
    have := b.2 j h1 h2
    omega
/-- sure that all have had it -/
def sureAll (h : House) (k : Nat) (d : Deed) : Bool := (others h k).all fun j => was (((h.desk k).sure[j]?).getD []) d
theorem sure_all {h : House} (o : Ok h) {k : Nat} {d : Deed} (hd : d ∈ h.had k) : ((List.range h.hands).all fun j => was (h.sure k j) d) = sureAll h k d := by
  have w := (o.mem_had.mp hd).2
  rw [Bool.eq_iff_iff, List.all_eq_true]
  unfold sureAll
  rw [List.all_eq_true]
  constructor
  · intro z j hj
    obtain ⟨h1, h2⟩ := mem_others.mp hj
    have := z j (List.mem_range.mpr h1)
    unfold House.sure at this
    rw [if_neg (fun q => h2 q.symm)] at this
    exact this
  · intro z j hj
    unfold House.sure
    by_cases e : k = j
    · rw [if_pos e]; exact w
    · rw [if_neg e]
      exact z j (mem_others.mpr ⟨List.mem_range.mp hj, fun q => e q.symm⟩)
def isRipe (h : House) (k : Nat) (d : Deed) : Bool := !(decide (h.settled k < d.stamp.count + 20) || !sureAll h k d)
theorem takeWhile_congr {α : Type} {p q : α → Bool} : ∀ {l : List α}, (∀ x ∈ l, p x = q x) → l.takeWhile p = l.takeWhile q
  | [], _ => rfl
  | a :: l, h => by
    have e := h a List.mem_cons_self
    have ih := takeWhile_congr (l := l) fun x hx => h x (List.mem_cons_of_mem _ hx)
    cases c : p a with
    | true => rw [List.takeWhile_cons_of_pos c, List.takeWhile_cons_of_pos (e ▸ c), ih]
    | false => rw [List.takeWhile_cons_of_neg (by rw [c]; exact Bool.false_ne_true), List.takeWhile_cons_of_neg (by rw [← e, c]; exact Bool.false_ne_true)]
theorem ripe_eq {h : House} (o : Ok h) (k : Nat) : h.ripe k = (h.kept k).takeWhile (isRipe h k) := by
  refine takeWhile_congr fun d hd => ?_
  have hm : d ∈ h.had k := List.mem_of_mem_drop hd
  rw [sure_all o hm]
  unfold isRipe
  cases sureAll h k d with
  | false => simp
  | true =>
    rw [Bool.true_and, Bool.not_true, Bool.or_false]
    show decide (d.stamp.count + 20 ≤ h.settled k) = _
    by_cases c : d.stamp.count + 20 ≤ h.settled k
    · rw [decide_eq_true c, decide_eq_false (by omega)]; rfl
    · rw [decide_eq_false c, decide_eq_true (by omega)]; rfl
/-! ### each within something stands there once -/
theorem Up.in_trans {t : Sq28.Tree} {y : Nat} {m : List Nat} (u : Up t y m) {a b : Nat} {m2 : List Nat} (ha : a ∈ m) (ub : Up t a m2) (hb : b ∈ m2) : b ∈ m := by
  induction u with
  | top h =>
    have e : a = _ := List.mem_singleton.mp ha
    subst e
    rw [ub.det (Up.top h)] at hb; exact hb
  | step h v ih =>
    rcases List.mem_cons.mp ha with rfl | ha
    · rw [ub.det (Up.step h v)] at hb; exact hb
    · exact List.mem_cons_of_mem _ (ih ha)
theorem Up.child {t : Sq28.Tree} {y : Nat} {m : List Nat} (u : Up t y m) {a b p : Nat} {qa qb : Sq28.Place} (ha : a ∈ m) (hb : b ∈ m) (ga : Sq28.get t a = some qa) (gb : Sq28.get t b = some qb) (pa : qa.under = p) (pb : qb.under = p) : a = b := by
  have no : ∀ {x : Nat} {q : Sq28.Place} {l : List Nat} {c : Nat} {qc : Sq28.Place}, Sq28.get t x = some q → Up t q.under l → q.under = p → c ∈ l → Sq28.get t c = some qc → qc.under = p → False := by
    intro x q l c qc h v hq hc gc pc
    obtain ⟨m', um, lm⟩ := v.at hc
    have v' : Up t qc.under l := by rw [pc, ← hq]; exact v
    rw [um.det (Up.step gc v')] at lm
    simp only [List.length_cons] at lm
    omega
  induction u with
  | top h =>
    have e : a = _ := List.mem_singleton.mp ha
    have e' : b = _ := List.mem_singleton.mp hb
    rw [e, e']
  | step h v ih =>
    rcases List.mem_cons.mp ha with ea | ha2 <;> rcases List.mem_cons.mp hb with eb | hb2
    · rw [ea, eb]
    · subst ea
      rw [ga] at h; cases h
      exact (no ga v pa hb2 gb pb).elim
    · subst eb
      rw [gb] at h; cases h
      exact (no gb v pb ha2 ga pa).elim
    · exact ih ha2 hb2
theorem listed_in {l : List Deed} {t : Sq28.Tree} (g : Grounded t) : ∀ (f d p : Nat) (y : Nat × Nat), y ∈ listed l t f d p → ∃ e ∈ row l t p, e.thing ∈ Sq28.above t y.1
  | 0, _, _, _, h => by cases h
  | f + 1, d, p, y, h => by
    obtain ⟨e, he, hy⟩ := List.mem_flatMap.mp h
    refine ⟨e, he, ?_⟩
    rcases List.mem_cons.mp hy with rfl | hy
    · obtain ⟨r, q⟩ := (g.above e.thing).head
      rw [q]; exact List.mem_cons_self
    · obtain ⟨e', he', hy'⟩ := listed_in g f (d + 1) e.thing y hy
      obtain ⟨q, g1, g2, _⟩ := row_get he'
      refine (g.above y.1).in_trans hy' (g.above e'.thing) ?_
      rw [above_child g g1, g2]
      obtain ⟨r, q⟩ := (g.above e.thing).head
      rw [q]; exact List.mem_cons_of_mem _ List.mem_cons_self
theorem listed_there {l : List Deed} {t : Sq28.Tree} : ∀ (f d p : Nat) (y : Nat × Nat), y ∈ listed l t f d p → y.1 ∈ t.map (·.thing)
  | 0, _, _, _, h => by cases h
  | f + 1, d, p, y, h => by
    obtain ⟨e, he, hy⟩ := List.mem_flatMap.mp h
    rcases List.mem_cons.mp hy with rfl | hy
    · obtain ⟨q, g1, _⟩ := row_get he
      exact List.mem_map.mpr ⟨q, get_mem g1, get_thing g1⟩
    · exact listed_there f (d + 1) e.thing y hy
theorem row_things {l : List Deed} {t : Sq28.Tree} {p : Nat} (ids : (l.map (·.id)).Nodup) (O : Ordered l) (u : ∀ d e, d ∈ l → e ∈ l → d.id = e.id → d = e) : (row l t p).Pairwise fun a b => a.thing ≠ b.thing := by
  have n : (row l t p).Nodup := List.Nodup.sublist List.filter_sublist (spots_nodup O ids p)
  rw [List.nodup_iff_pairwise_ne] at n
  refine List.Pairwise.imp_of_mem ?_ n
  intro a b ha hb hab e
  obtain ⟨qa, a1, _, a3⟩ := row_get ha
  obtain ⟨qb, b1, _, b3⟩ := row_get hb
  rw [e, b1] at a1
  cases a1
  exact hab (u a b (spots_mem (row_spots ha)).1 (spots_mem (row_spots hb)).1 (by rw [← a3, b3]))
theorem listed_nodup {l : List Deed} {t : Sq28.Tree} (g : Grounded t) (w : ∀ p, (row l t p).Pairwise fun a b => a.thing ≠ b.thing) : ∀ (f d p : Nat), (listed l t f d p).Pairwise fun a b => a.1 ≠ b.1
  | 0, _, _ => List.Pairwise.nil
  | f + 1, d, p => by
    show ((row l t p).flatMap fun e => (e.thing, d) :: listed l t f (d + 1) e.thing).Pairwise _
    have inb : ∀ (e : Deed) (x : Nat × Nat), x ∈ (e.thing, d) :: listed l t f (d + 1) e.thing → e.thing ∈ Sq28.above t x.1 := by
      intro e x hx
      rcases List.mem_cons.mp hx with rfl | hx
      · obtain ⟨r, q⟩ := (g.above e.thing).head
        rw [q]; exact List.mem_cons_self
      · obtain ⟨e', he', hy'⟩ := listed_in g f (d + 1) e.thing x hx
        obtain ⟨q, g1, g2, _⟩ := row_get he'
        refine (g.above x.1).in_trans hy' (g.above e'.thing) ?_
        rw [above_child g g1, g2]
        obtain ⟨r, q⟩ := (g.above e.thing).head
        rw [q]; exact List.mem_cons_of_mem _ List.mem_cons_self
    rw [List.pairwise_flatMap]
    refine ⟨fun e he => List.pairwise_cons.mpr ⟨fun y hy z => ?_, listed_nodup g w f (d + 1) e.thing⟩, ?_⟩
    · obtain ⟨e', he', hy'⟩ := listed_in g f (d + 1) e.thing y hy
      obtain ⟨q, g1, g2, _⟩ := row_get he'
      have n := (g.above e'.thing).nodup
      rw [above_child g g1, g2] at n
      have z' : e.thing = y.1 := z
      rw [← z'] at hy'
      exact (List.nodup_cons.mp n).1 hy'
    · refine List.Pairwise.imp_of_mem ?_ (w p)
      intro a b ha hb hab x hx y hy z
      obtain ⟨qa, a1, a2, _⟩ := row_get ha
      obtain ⟨qb, b1, b2, _⟩ := row_get hb
      have h1 := inb a x hx
      have h2 := inb b y hy
      rw [← z] at h2
      exact hab ((g.above x.1).child h1 h2 a1 b1 a2 b2)
theorem sub_len {l : List Deed} (wf : Wf l) (d p : Nat) : (sub l (treeOf l) d p).length ≤ (treeOf l).length := by
  have n := listed_nodup (l := l) (grounded_treeOf l) (fun p => row_things wf.ids wf.ordered fun d e hd he => wf.uniq hd he) ((treeOf l).length + 1) d p
  have n2 : ((sub l (treeOf l) d p).map (·.1)).Nodup := by
    rw [List.nodup_iff_pairwise_ne, List.pairwise_map]; exact n
  have := length_le_of_sub n2 (m := (treeOf l).map (·.thing)) fun x hx => by
    obtain ⟨y, hy, e⟩ := List.mem_map.mp hx
    rw [← e]
    exact listed_there _ _ _ y hy
  rw [List.length_map, List.length_map] at this
  exact this
theorem tree_len {l : List Deed} (wf : Wf l) : (treeOf l).length ≤ 100 := by
  have h1 := (treeBy_ok (held l)).2.1
  rw [treeBy_held] at h1
  have h2 := List.length_filter_le (holds l) l
  have h3 := wf.len
  unfold held at h1
  omega
end Ho
end

section
set_option Elab.async false
set_option maxRecDepth 100000
set_option maxHeartbeats 4000000
/-! sorted(xs, key=f), f a def of the program that makes a pair of whole numbers and changes nothing. -/
namespace Ho
open PySem PySem.W PyProof.Rows L2
def leK (k : V → Int × Int) (a b : V) : Bool := decide ((k a).1 < (k b).1 ∨ ((k a).1 = (k b).1 ∧ (k a).2 ≤ (k b).2))
def rSortOwn (K : PySem.W.Frag) (sp : Sp) (f : Addr) : List V → List V → Hp → VK → Prop := fun vs zs H Q =>
  ∃ (l : Addr) (xs : List V) (k : V → Int × Int), vs = [.ref l] ∧ zs = [.ref f] ∧ SqL K H l xs ∧
    (∀ x ∈ xs, ∀ (H1 : Hp) (Q1 : VK), Same H H1 → (∀ (H2 : Hp) (t : Addr), Same H1 H2 → H2 t = some (.tup [.int (k x).1, .int (k x).2]) → Q1 (.ref t) H2) → sp [x] H1 Q1 E0) ∧
    ∀ (p : Addr) (H2 : Hp), Same H H2 → H p = none → H2 p = some (.lst (xs.mergeSort (leK k))) → Q (.ref p) H2
section
variable {X : Cx}
/-- the context within two calls of Python's own -/
def deep (X : Cx) : Cx := { X with A := X.A.in1.in1, xe := fun _ _ => False }
theorem deep_in {pins : List (Addr × Obj)} {σ : L2.St} {H : Hp} {s : Shared} (I : L2.Inv X pins σ H s) : L2.Inv (deep X) pins σ H s :=
  ⟨{ I.ok with hd := I.ok.hd, frames := I.ok.frames }, I.os, I.bare, I.base, I.loc, I.cell, I.free, I.freeC, I.pin, I.hok, I.len⟩
theorem deep_out {pins : List (Addr × Obj)} {σ : L2.St} {H : Hp} {s : Shared} (o : X.Ok) (I : L2.Inv (deep X) pins σ H s) : L2.Inv X pins σ H s :=
  ⟨o, I.os, I.bare, I.base, I.loc, I.cell, I.free, I.freeC, I.pin, I.hok, I.len⟩
/-- an object is no longer told of -/
def cut (H : Hp) (c : Addr) : Hp := fun b => if b = c then none else H b
theorem cut_ne {H : Hp} {b c : Addr} (h : b ≠ c) : cut H c b = H b := if_neg h
theorem cut_same {H : Hp} {c : Addr} : cut H c c = none := if_pos rfl
/-- two objects of ours have changed: one that was told of and is no more, one that is told of from now on -/
theorem two_laid {pins : List (Addr × Obj)} {σ : L2.St} {H : Hp} {s : Shared} {a c : Addr} {zs : List V} {ys : List V} {h' : Heap} {tk : Nat} (I : L2.Inv X pins σ H s) (hc : H c = some (.lst zs)) (ha : H a = none)
    (na : X.s_0.heap.objs.size ≤ a) (nc : X.s_0.heap.objs.size ≤ c) (la : a ≠ X.env.locals) (lc : c ≠ X.env.locals) (ca : ∀ x q, X.env.cells.lookup x = some q → q ≠ a) (cc : ∀ x q, X.env.cells.lookup x = some q → q ≠ c)
    (pa : ∀ p ∈ X.pn ++ pins, p.1 ≠ a) (pc : ∀ p ∈ X.pn ++ pins, p.1 ≠ c)
    (k : ∀ b o, b ≠ a → b ≠ c → s.heap.get? b = some o → h'.get? b = some o)
    (na' : ObjOk X.prog X.w (upd (cut H c) a (.lst ys)) h' a (.lst ys)) :
    L2.Inv X pins σ (upd (cut H c) a (.lst ys)) { s with heap := h', toks := tk } := by
  have away : ∀ b o, H b = some o → (∀ z, o ≠ .lst z) → upd (cut H c) a (.lst ys) b = some o := fun b o e n => by
    rw [upd_ne (fun z => by rw [z, ha] at e; cases e), cut_ne (fun z => by rw [z, hc] at e; exact n _ (Option.some.inj e).symm)]
    exact e
  have nin : ∀ b, b ∉ ([a, c] : List Addr) → b ≠ a ∧ b ≠ c := fun b hb => ⟨fun z => hb (by simp [z]), fun z => hb (by simp [z])⟩
  refine I.step (g' := s.gens) (d' := s.drawn) (ch := [a, c]) (fun b hb => ?_) (fun b o _ _ hb e _ => k b o (nin b hb).1 (nin b hb).2 e) (fun b o _ _ hb e _ => ⟨o.slots, k b o (nin b hb).1 (nin b hb).2 e⟩)
    (fun b o hb e n => by rw [upd_ne (nin b hb).1, cut_ne (nin b hb).2]; exact n) (fun b o hb e => ⟨o, k b o (nin b hb).1 (nin b hb).2 e⟩)
    (fun b xs e => away b _ e fun z q => by cases q) (fun b o u e => away b _ e fun z q => by cases q) (fun b ps e => ⟨#[], by rw [away b _ e fun z q => by cases q]; simp⟩) (fun m hm => ?_) (fun b u e => ?_) I.bare
  · rcases List.mem_cons.mp hb with rfl | hb
    · exact ⟨.inr na, la, ca, pa⟩
    · have e : b = c := by simpa using hb
      subst e
      exact ⟨.inr nc, lc, cc, pc⟩
  · obtain ⟨o, es, ep, ho, rr⟩ := hm
    exact ⟨o, es, ep, k _ o (Ne.symm la) (Ne.symm lc) ho, rr⟩
  · by_cases hb : b = a
    · subst hb
      rw [upd_same] at e
      cases e
      exact na'
    · rw [upd_ne hb] at e
      by_cases hbc : b = c
      · subst hbc
        rw [cut_same] at e
        cases e
      · rw [cut_ne hbc] at e
        refine (I.hok b u e).stay (fun d v hd q => k d v ?_ ?_ q) (fun d q => away d _ q fun z r => by cases r) fun d xs q => away d _ q fun z r => by cases r
        · rcases hd with rfl | hd
          · exact hb
          · exact fun z => by rw [z, ha] at hd; cases hd
        · rcases hd with rfl | hd
          · exact hbc
          · exact fun z => by rw [z, hc] at hd; cases hd
theorem vals_each {xs : List V} {its : List Value} (r : Vals xs its) : EachIs (fun v x => L2.RelV x v) its xs := by
  induction r with
  | nil => exact .nil
  | cons h _ ih => exact .cons h ih
theorem each_vals {xs : List V} {its : List Value} (r : EachIs (fun v x => L2.RelV x v) its xs) : Vals xs its := by
  induction r with
  | nil => exact .nil
  | cons h _ ih => exact .cons h ih
theorem vals_at {xs : List V} {its : List Value} (r : Vals xs its) : ∀ {j : Nat} {v : Value}, its[j]? = some v → ∃ x, xs[j]? = some x ∧ L2.RelV x v := by
  induction r with
  | nil => intro j v h; simp at h
  | @cons a b _ _ h _ ih =>
    intro j v hj
    cases j with
    | zero =>
      have e : b = v := Option.some.inj hj
      subst e
      exact ⟨a, rfl, h⟩
    | succ j => exact ih (j := j) hj
def keyD (k : V → Int × Int) (x : V) : PyData := .tuple [.int (k x).1, .int (k x).2]
theorem reads_pair {P : Program} {w : World} {H : Hp} {h : Heap} {t : Addr} {a b : Int} (o : HOk P w H h) (e : H t = some (.tup [.int a, .int b])) : ∃ as, Reads h (.ref t) (.tuple [.int a, .int b]) as := by
  obtain ⟨_, its, r, ob, ho, hcl, n, hd⟩ := o t _ e
  cases r with
  | cons r1 r =>
    cases r with
    | cons r2 r =>
      cases r with
      | nil =>
        obtain ⟨t1, rfl⟩ : ∃ q, _ = Value.int a q := r1
        obtain ⟨t2, rfl⟩ : ∃ q, _ = Value.int b q := r2
        exact ⟨_, .tuple ho hcl hd (.cons (.int _ _) (.cons (.int _ _) .nil))⟩
theorem each_keys' {P : Program} {w : World} {H : Hp} {h : Heap} {k : V → Int × Int} (o : HOk P w H h) : ∀ {ts : List Addr} {xs : List V} {its : List Value}, Vals (ts.map V.ref) its → ts.length = xs.length →
    (∀ (j : Nat) (t : Addr) (x : V), ts[j]? = some t → xs[j]? = some x → H t = some (.tup [.int (k x).1, .int (k x).2])) → EachIs (fun v d => ∃ as, Reads h v d as) its (xs.map (keyD k))
  | [], [], _, r, _, _ => by cases r; exact .nil
  | [], _ :: _, _, _, hl, _ => by simp at hl
  | _ :: _, [], _, _, hl, _ => by simp at hl
  | t :: ts, x :: xs, _, r, hl, hh => by
    cases r with
    | cons r1 r =>
      obtain rfl := r1
      exact .cons (reads_pair o (hh 0 t x rfl rfl)) (each_keys' o r (by simpa using hl) fun j => hh (j + 1))
end
end Ho
end

section
set_option Elab.async false
set_option maxRecDepth 100000
set_option maxHeartbeats 4000000
namespace Ho
open PySem PySem.W PyProof.Rows L2
section
variable {X : Cx}
/-- the keys are made, one by one, then the items are sorted by them -/
theorem sort_rest {f : Addr} {fd : FuncData} {pn : Str} {sp : Sp} {n : Nat} (F : FnOk X.prog X.w X.K X.mg X.base CX0 n f fd [pn] sp) (hr : Room (n + 2) X.A) (hb : Binds X.K fd [pn] [])
    {pins : List (Addr × Obj)} {s : Shared} {σ : L2.St} {H : Hp} {Q : VK} {xs : List V} {k : V → Int × Int} {its : List Value} {a c : Addr} {ep : Nat} {hD : Heap} {E' : Value → Shared → Prop}
    (I : L2.Inv X pins σ H s) (rv : Vals xs its) (hz : xs.length ≤ sizeLine)
    (key : ∀ x ∈ xs, ∀ (H1 : Hp) (Q1 : VK), Same H H1 → (∀ (H2 : Hp) (t : Addr), Same H1 H2 → H2 t = some (.tup [.int (k x).1, .int (k x).2]) → Q1 (.ref t) H2) → sp [x] H1 Q1 E0)
    (fin : ∀ (p : Addr) (H2 : Hp), Same H H2 → H p = none → H2 p = some (.lst (xs.mergeSort (leK k))) → Q (.ref p) H2)
    (keep : ∀ b o, s.heap.get? b = some o → hD.get? b = some o) (hoa : hD.get? a = some (seqObj "list" #[] ep)) (hoc : hD.get? c = some (seqObj "list" #[] 0)) (ga : s.heap.objs.size ≤ a) (gc : s.heap.objs.size ≤ c) (hac : a ≠ c) :
    wpAny (model X.prog X.w) X.A.in1.in1 (ksk_rest a (.ref f) false its.toArray ep (.ref c)) (fun u s' => u = .done (.ret .none) ∧ EP X pins σ Q (.ref a) s') E' { s with heap := hD } := by
  have hlen : xs.length = its.length := rv.length
  have fa : H a = none := I.hok.fresh ga
  have fc : H c = none := I.hok.fresh gc
  have ne_new : ∀ b, s.heap.objs.size ≤ b → b ≠ X.env.locals := fun b hb => Nat.ne_of_gt (Nat.lt_of_lt_of_le I.lt hb)
  have cell_new : ∀ b, s.heap.objs.size ≤ b → ∀ x q, X.env.cells.lookup x = some q → q ≠ b := fun b hb x q e z => by
    obtain ⟨v, o, ho, _⟩ := I.cell x q e
    have := Heap.lt_size ho
    rw [z] at this
    exact absurd (Nat.lt_of_lt_of_le this hb) (Nat.lt_irrefl _)
  have pin_new : ∀ b, s.heap.objs.size ≤ b → ∀ p ∈ X.pn ++ pins, p.1 ≠ b := fun b hb p hp z => by
    have := Heap.lt_size (I.pin p hp).1
    rw [z] at this
    exact absurd (Nat.lt_of_lt_of_le this hb) (Nat.lt_irrefl _)
  have I2 : L2.Inv X pins σ (upd H c (.lst [])) { s with heap := hD, toks := s.toks } := I.laid keep gc ⟨Nat.zero_le _, [], 0, .nil, hoc⟩
  have I3 : L2.Inv (deep X) ((a, seqObj "list" #[] ep) :: pins) σ (upd H c (.lst [])) { s with heap := hD, toks := s.toks } := by
    refine deep_in (I2.pins_of fun p hp => ?_)
    rcases List.mem_cons.mp hp with rfl | hp
    · exact ⟨hoa, (by rw [upd_ne hac]; exact fa), ne_new _ ga, I.nofs ga, fun v q => by cases q⟩
    · exact I2.pin p (List.mem_append_right _ hp)
  have s1 : Same H (upd H c (.lst [])) := fun b o e => by rw [upd_ne (ne_of_none e fc)]; exact e
  unfold ksk_rest
  refine wpAny_bind (wpAny_rule ?_)
  rw [List.forIn_toArray]
  refine wpAny_bind (ksk_fold (fun i s' => ∃ (Hi : Hp) (ts : List Addr), L2.Inv (deep X) ((a, seqObj "list" #[] ep) :: pins) σ Hi s' ∧ Same H Hi ∧ Hi c = some (.lst (ts.map V.ref)) ∧ ts.length = i ∧
      ∀ (j : Nat) (t : Addr) (x : V), ts[j]? = some t → xs[j]? = some x → Hi t = some (.tup [.int (k x).1, .int (k x).2])) its 0 _ ⟨_, [], I3, s1, upd_same, rfl, fun j t x h => by simp at h⟩ ?step ?done)
  case step =>
    rintro j v s' hv ⟨Hi, ts, Ii, sm, hc, hn, ht⟩
    obtain ⟨x, hx, rx⟩ := vals_at rv hv
    have call1 : wpAny (model X.prog X.w) X.A.in1.in1 (call (.ref f) [v]) (EP (deep X) ((a, seqObj "list" #[] ep) :: pins) σ (fun y H2 => ∃ t, y = V.ref t ∧ Same Hi H2 ∧ H2 t = some (.tup [.int (k x).1, .int (k x).2]))) (fun _ _ => False) s' :=
      run_fn (X := deep X) (us := [v]) (vs := [x]) F (by exact hr.in1.in1) hb .nil (E := E0) (fun _ _ _ _ _ _ _ h => h) Ii (.cons rx .nil) (key x (List.mem_of_getElem? hx) Hi _ sm fun H2 t q1 q2 => ⟨t, rfl, q1, q2⟩)
    refine wpAny_bind (wpAny_attempt (wpAny_mono call1 (fun u s2 hu => ?_) fun _ _ z => z.elim))
    obtain ⟨y, H2, I5, ry, t, rfl, q1, q2⟩ := hu
    obtain rfl : u = Value.ref t := ry
    have hc2 : H2 c = some (.lst (ts.map V.ref)) := q1 c _ hc
    obtain ⟨z0, ks, m, rk, hlk, ek⟩ := I5.lstM hc2
    have small : (ts.map V.ref).length < its.length := by
      rw [List.length_map, hn, Nat.zero_add]
      exact (List.getElem?_eq_some_iff.mp hv).1
    have szk : ks.toArray.size < its.length := by rw [List.size_toArray, ← hlk]; exact small
    have tne : ∀ (t : Addr) (ys : List V), H2 t = some (.tup ys) → t ≠ c := fun t ys e z => by rw [z, hc2] at e; cases e
    refine wpAny_bind (listUpdate_at ek rfl ?_ (by omega) (by rw [Array.size_push]; omega))
    refine wpAny_pure ⟨rfl, upd H2 c (.lst (ts.map V.ref ++ [V.ref t])), ts ++ [t], I5.lset (its' := ks ++ [Value.ref t]) hc2 ek (by simp) (rk.append (.cons rfl .nil)) (by rw [List.length_append, List.length_singleton]; omega), ?_, ?_, ?_, ?_⟩
    · exact fun b o e => by rw [upd_ne (ne_of_none e fc)]; exact q1 b o (sm b o e)
    · rw [upd_same, List.map_append]; rfl
    · rw [List.length_append, hn]; rfl
    · intro i t' x' h1 h2
      rw [List.getElem?_append] at h1
      split at h1
      · have e := q1 _ _ (ht i t' x' h1 h2)
        rw [upd_ne (tne _ _ e)]
        exact e
      · rename_i hi
        have hi0 : i - ts.length = 0 := by
          cases z : i - ts.length with
          | zero => rfl
          | succ q => rw [z] at h1; simp at h1
        rw [hi0] at h1
        have et : t = t' := Option.some.inj h1
        subst et
        have ej : i = j := by omega
        subst ej
        rw [hx] at h2
        have ex : x = x' := Option.some.inj h2
        subst ex
        rw [upd_ne (tne _ _ q2)]
        exact q2
  case done =>
    rintro s' ⟨Hn, ts, In, sm, hc, hn, ht⟩
    obtain ⟨z0, ks, m, rk, hlk, ek⟩ := In.lstM hc
    have hn' : ts.length = xs.length := by rw [hn, Nat.zero_add, hlen]
    have hsz : ks.toArray.size = its.length := by rw [List.size_toArray, ← hlk, List.length_map, hn', hlen]
    obtain ⟨pa1, pa2, _⟩ := In.pin (a, seqObj "list" #[] ep) (List.mem_append_right _ List.mem_cons_self)
    obtain ⟨G, g1, g2⟩ := restrict s'.heap fun b => decide (b ≠ c)
    have each := each_keys' In.hok rk hn' ht
    have units : ∀ d, d ∈ xs.map (keyD k) → X.A.in1.in1.units + d.depth < cLine := fun d hd => by
      obtain ⟨x, _, rfl⟩ := List.mem_map.mp hd
      have e : (keyD k x).depth = 1 := by simp [keyD, PyData.depth, PyData.depthAll]
      have := hr.un
      show X.A.units + 1 + 1 + (keyD k x).depth < cLine
      omega
    have al : AllAlike (xs.map (keyD k)) := AllAlike.of fun _ _ => by simp [alike, alikeAll, keyD]
    refine wpAny_bind (listItems_at ek rfl ?_)
    refine keyH_end (κ := dataKind s'.heap (xs.map (keyD k))) (h₁ := G) (fun b o hb e => ?_) (g2 c (by simp)) ek pa1 (Ne.symm hac) (SortsAt.data each al (Sortable.tuples fun _ => ⟨_, _, rfl⟩) units) hsz (by rw [← hlen]; exact hz) fun h3 tk e3 k3 n3 => ⟨rfl, ?_⟩
    · by_cases q : b = c
      · subst q; rw [g2 _ (by simp)] at e; cases e
      · rw [g1 b (by simp [q])] at e; exact e
    have ko : KeyedOut false (xs.map (keyD k)) its (sortVals (dataKind s'.heap (xs.map (keyD k))) false ks.toArray.toList its) := ⟨s'.heap, _, al, rfl, each⟩
    have out := each_vals (keyedOut_each (keyD k) ko (vals_each rv))
    have eqk : dataLe false (keyD k) = leK k := dataLe_ii (fun x => (k x).1) fun x => (k x).2
    rw [eqk] at out
    have kp : ∀ b o, b ≠ a → b ≠ c → s'.heap.get? b = some o → h3.get? b = some o := fun b o h1 h2 e => k3 b o h1 (by rw [g1 b (by simp [h2])]; exact e)
    have In0 : L2.Inv X pins σ Hn s' := deep_out I.ok (In.pins_of fun p hp => In.pin p (List.mem_append_right _ (List.mem_cons_of_mem _ hp)))
    refine ⟨.ref a, upd (cut Hn c) a (.lst (xs.mergeSort (leK k))), two_laid In0 hc pa2 (Nat.le_trans I.sz ga) (Nat.le_trans I.sz gc) (ne_new _ ga) (ne_new _ gc) (cell_new _ ga) (cell_new _ gc) (pin_new _ ga) (pin_new _ gc) kp ⟨?_, _, e3, out, n3⟩, rfl, fin a _ (fun b o e => ?_) fa upd_same⟩
    · rw [List.length_mergeSort]; exact hz
    · rw [upd_ne (ne_of_none e fa), cut_ne (ne_of_none e fc)]
      exact sm b o e
theorem cr_sortOwn {f : Addr} {fd : FuncData} {pn : Str} {sp : Sp} {n : Nat} (F : FnOk X.prog X.w X.K X.mg X.base CX0 n f fd [pn] sp) (hr : Room (n + 2) X.A) (hb : Binds X.K fd [pn] []) :
    CallRK X (.builtin "sorted") [Str.ofString "key"] (rSortOwn X.K sp f) := by
  intro pins s σ H vs zs us ws Q I r rz ⟨l, xs, k, e1, e2, hs, key, fin⟩
  subst e1; subst e2
  obtain rfl := Vals.ref1 r
  obtain rfl := Vals.ref1 rz
  obtain ⟨its, rv, hl, hz⟩ := I.list hs
  have hlen : xs.length = its.length := rv.length
  refine sorted_of_sort hl.isList (by rw [← hlen]; exact hz) (ksk_s1 _ _) (fun _ => ksk_l1 _ _) fun E' => ?_
  show wpAny _ _ (ksk_tree (s.heap.objs.size + 1) (.ref f) false) _ _ _
  have ho : (copyHeap s.heap its).get? (s.heap.objs.size + 1) = some (seqObj "list" its.toArray 0) := copyHeap_at _ _
  obtain ⟨ep, hoB⟩ : ∃ ep, ((copyHeap s.heap its).update (s.heap.objs.size + 1) (Obj.mapSeq fun _ => (#[] : Array Value))).get? (s.heap.objs.size + 1) = some (seqObj "list" #[] ep) := ⟨_, get?_update_seq ho fun _ => #[]⟩
  unfold ksk_tree
  refine wpAny_bind (listItems_at ho rfl (wpAny_bind (listUpdate_at ho rfl ?_ (by rw [List.size_toArray, ← hlen]; exact hz) (Nat.zero_le _))))
  refine wpAny_bind (seqEpoch_at hoB rfl (wpAny_bind (wpAny_newTuple (wpAny_bind (wpAny_newList (wpAny_holding ?_) (Nat.zero_le _))) (by show its.length ≤ sizeLine; rw [← hlen]; exact hz))))
  have szA : (copyHeap s.heap its).objs.size = s.heap.objs.size + 2 := by
    unfold copyHeap
    rw [size_push', Heap.size_update, size_push']
  have szC : (((copyHeap s.heap its).update (s.heap.objs.size + 1) (Obj.mapSeq fun _ => (#[] : Array Value))).push { cls := Value.type "tuple", data := Data.seq its.toArray }).objs.size = s.heap.objs.size + 3 := by
    rw [size_push', Heap.size_update, szA]
  refine sort_rest (s := s) (a := s.heap.objs.size + 1) F hr hb I rv hz key fin (fun b o e => ?_) ?_ ?_ (Nat.le_succ _) ?_ ?_
  · have lt := Heap.lt_size e
    have e1 : (copyHeap s.heap its).get? b = some o := copyHeap_old e
    refine Heap.get?_push_of_some _ (Heap.get?_push_of_some _ ?_)
    exact (Heap.get?_update_other _ _ (Nat.ne_of_gt (Nat.lt_succ_of_lt lt))).trans e1
  · exact Heap.get?_push_of_some _ (Heap.get?_push_of_some _ hoB)
  · exact Heap.get?_push_size _ rfl
  · show s.heap.objs.size ≤ (((copyHeap s.heap its).update (s.heap.objs.size + 1) (Obj.mapSeq fun _ => (#[] : Array Value))).push { cls := Value.type "tuple", data := Data.seq its.toArray }).objs.size
    rw [szC]; omega
  · show s.heap.objs.size + 1 ≠ (((copyHeap s.heap its).update (s.heap.objs.size + 1) (Obj.mapSeq fun _ => (#[] : Array Value))).push { cls := Value.type "tuple", data := Data.seq its.toArray }).objs.size
    rw [szC]; omega
end
end Ho
end

section
set_option Elab.async false
set_option maxRecDepth 100000
set_option maxHeartbeats 4000000
/-! d[k] of a dict of whole numbers that the top has written. -/
namespace Ho
open PySem PySem.W PyProof.Rows L2
def tbE (e : Int × Tok × Int × Tok) : DictEntry := { hash := e.1, key := .int e.1 e.2.1, val := .int e.2.2.1 e.2.2.2 }
def TbAt (K : PySem.W.Frag) (S : Addr) (tb : List (Int × Int)) : Prop :=
  ∃ (es : List (Int × Tok × Int × Tok)) (n : Nat), K.lookup S = some { cls := .type "dict", data := .dict (es.map tbE).toArray n } ∧ (∀ e ∈ tb, hashInt e.1 = e.1) ∧ (tb.map (·.1)).Nodup ∧ es.map (fun e => (e.1, e.2.2.1)) = tb
def rTb (S : Addr) (tb : List (Int × Int)) : R2 := fun x y H Q => ∃ k v, x = .ref S ∧ y = .int k ∧ (k, v) ∈ tb ∧ Q (.int v) H
theorem tb_pairs {prog : Program} {w : World} : ∀ (es : List (Int × Tok × Int × Tok)), Pairs (PySem.intKind prog w) (es.map tbE) (es.map fun e => (e.1, Value.int e.2.2.1 e.2.2.2))
  | [] => .nil
  | e :: es => .cons (by simp [tbE, PySem.intKind, Value.isInt]) rfl (tb_pairs es)
theorem tb_value : ∀ {es : List (Int × Tok × Int × Tok)} {k v : Int}, (es.map (·.1)).Nodup → (k, v) ∈ es.map (fun e => (e.1, e.2.2.1)) → ∃ t, valueAt (es.map fun e => (e.1, Value.int e.2.2.1 e.2.2.2)) k = some (.int v t)
  | [], k, v, _, h => by cases h
  | e :: es, k, v, nd, h => by
    have nd' := List.nodup_cons.mp nd
    unfold valueAt
    rw [List.map_cons, List.find?_cons]
    rcases List.mem_cons.mp h with q | q
    · cases q
      simp
    · have : ¬ e.1 = k := fun z => by
        obtain ⟨e', he', q'⟩ := List.mem_map.mp q
        injection q' with q1 _
        exact nd'.1 (List.mem_map.mpr ⟨e', he', q1.trans z.symm⟩)
      rw [decide_eq_false this]
      exact tb_value nd'.2 q
theorem ix_tb {X : Cx} {S : Addr} {tb : List (Int × Int)} (T : TbAt X.K S tb) : IxR X (rTb S tb) := by
  intro value slice pins s σ H x y v u Q I rx ry h hs
  obtain ⟨k, z, rfl, rfl, hm, q⟩ := h
  obtain ⟨es, n, hl, hh0, hn0, rfl⟩ := T
  have hh : ∀ e ∈ es, hashInt e.1 = e.1 := fun e he => hh0 (e.1, e.2.2.1) (List.mem_map.mpr ⟨e, he, rfl⟩)
  have hn : (es.map (·.1)).Nodup := by rw [List.map_map] at hn0; exact hn0
  obtain rfl : v = Value.ref S := rx
  obtain ⟨t, rfl⟩ := ry
  have hd : s.heap.DictOf (PySem.intKind X.prog X.w) S (es.map fun e => (e.1, Value.int e.2.2.1 e.2.2.2)) := by
    refine ⟨_, _, _, I.kIn S _ hl, ⟨rfl, rfl, rfl⟩, rfl, fun e he => ?_, by simpa using tb_pairs es, ?_⟩
    · have he' : e ∈ es.map tbE := by simpa using he
      obtain ⟨e', h1, rfl⟩ := List.mem_map.mp he'
      exact ⟨e'.1, by simp [tbE, PySem.intKind, Value.isInt], (hh e' h1).symm⟩
    · rw [List.map_map]; exact hn
  obtain ⟨t', hv⟩ := tb_value hn hm
  have hmap := hd.mapOf
  exact tail_any hmap.typeIs slot_dict_getitem.lookup (wpAny_getItem_of (by simp [PySem.intKind, Value.isInt]) hmap hv ⟨.int z, H, I.tok _, ⟨_, rfl⟩, q⟩) hs
end Ho
end

section
set_option Elab.async false
set_option maxRecDepth 100000
set_option maxHeartbeats 4000000
/-! xs.extend(t), t a tuple. -/
namespace Ho
open PySem PySem.W PyProof.Rows L2
open PySem.AutoSeq1 in
theorem extend_tup (l b : Addr) (us vs : Array Value) (n m : Nat) (dc : Option Addr) (sl : Array (Option Value)) (h0 : ¬(!us.isEmpty && Builtin.List.listTooLong (us.size + vs.size)) = true) (h1 : us.size ≤ sizeLine) (h2 : us.size + vs.size ≤ sizeLine + 1) :
    Meets (Builtin.«list.extend» ⟨[.ref l, .ref b], []⟩) (fun _ R s => s.heap.get? l = some { cls := .type "list", dict := none, data := .seq us n, slots := #[] } ∧ s.heap.get? b = some { cls := .type "tuple", dict := dc, data := .seq vs m, slots := sl } ∧
      R (.ok (.ret Value.none)) { s with heap := s.heap.update l (Obj.mapSeq fun x => x ++ vs), toks := s.toks }) := by
  refine .of_wp fun prog w A R s q => ?_
  obtain ⟨hp, g, d, tk, os⟩ := s
  obtain ⟨kl, kb, q⟩ := q
  have e1 := idx_int
  have e2 := AutoSeq1.sub_tuple_tuple
  have e3 := AutoSeq1.sub_list_list
  have e4 := AutoSeq1.sub_tuple_list
  have e5 := AutoSeq1.sub_list_tuple
  have hz : (us ++ vs).size ≤ sizeLine + 1 := by rw [Array.size_append]; exact h2
  wp_walk using (wpAny_updateSeq kl rfl (hz := h1) (_hz' := hz)), wpAny_loadPart' kl, wpAny_loadPart' kb
  exact ⟨_, rfl, q⟩
def rExtendT (K : PySem.W.Frag) : V → List V → Hp → VK → Prop := fun x vs H Q => ∃ l b xs zs, x = .ref l ∧ vs = [.ref b] ∧ H l = some (.lst xs) ∧ SqT K H b zs ∧ xs.length + zs.length ≤ sizeLine ∧ Q .non (upd H l (.lst (xs ++ zs)))
theorem mt_extendT {X : Cx} : MtM X "list.extend" (rExtendT X.K) := by
  intro pins s σ H x vs v us Q I rx rv q0
  obtain ⟨l, b, xs, zs, rfl, rfl, kl, kb, hz, q⟩ := q0
  cases rx
  obtain ⟨u, rfl, ru⟩ := rv.one
  cases ru
  obtain ⟨z, is1, n, r1, len1, g1⟩ := I.lstM kl
  obtain ⟨is2, r2, ⟨o, g2, hc, m, hd⟩, _⟩ := I.tuple kb
  obtain ⟨oc, dc, od, sl⟩ := o
  cases hc
  cases hd
  have len2 := r2.length
  have both : is1.toArray.size + is2.toArray.size ≤ sizeLine := by rw [List.size_toArray, List.size_toArray]; omega
  have short : ¬ (!is1.toArray.isEmpty && Builtin.List.listTooLong (is1.toArray.size + is2.toArray.size)) = true := by
    rw [notLongL both, Bool.and_false]; exact Bool.noConfusion
  refine call_meets F.slot_list_extend ⟨_, g1, rfl⟩ F.entry_list_extend (F.args_list_extend_2 _ _)
    (extend_tup l b is1.toArray is2.toArray n m dc sl short (by rw [List.size_toArray]; omega) (by omega)) ⟨g1, g2, ?_⟩
  exact ⟨.non, _, I.lset (its' := is1 ++ is2) kl g1 (by simp) (r1.append r2) (by rw [List.length_append]; omega), rfl, q⟩
end Ho
end

section
set_option Elab.async false
set_option maxRecDepth 100000
set_option maxHeartbeats 4000000
/-! The text: where each def stands, its names, what the top has written, classes as records. -/
namespace Ho
open PySem PySem.W PyProof.Rows L2
def top (i : Nat) : Stmt := PySem.Challenge.pw_handsoutline_s01_answers.main.body.getD i (.Pass ⟨0, 0, 0, 0⟩)
abbrev s_Put_init : Stmt := inClass (top 5) 0
abbrev N_Put_init : List Str := ["self", "thing", "under", "at", "side"]
theorem sc_Put_init : FnScope N_Put_init ["self", "thing", "under", "at", "side"] (defScope s_Put_init) := ⟨rfl, rfl, rfl, by decide +kernel, rfl, by decide +kernel, by decide +kernel⟩
abbrev s_Telling_init : Stmt := inClass (top 6) 0
abbrev N_Telling_init : List Str := ["self", "thing", "field", "value"]
theorem sc_Telling_init : FnScope N_Telling_init ["self", "thing", "field", "value"] (defScope s_Telling_init) := ⟨rfl, rfl, rfl, by decide +kernel, rfl, by decide +kernel, by decide +kernel⟩
abbrev s_Clearing_init : Stmt := inClass (top 7) 0
abbrev N_Clearing_init : List Str := ["self", "thing", "field"]
theorem sc_Clearing_init : FnScope N_Clearing_init ["self", "thing", "field"] (defScope s_Clearing_init) := ⟨rfl, rfl, rfl, by decide +kernel, rfl, by decide +kernel, by decide +kernel⟩
abbrev s_Adding_init : Stmt := inClass (top 8) 0
abbrev N_Adding_init : List Str := ["self", "thing", "amount"]
theorem sc_Adding_init : FnScope N_Adding_init ["self", "thing", "amount"] (defScope s_Adding_init) := ⟨rfl, rfl, rfl, by decide +kernel, rfl, by decide +kernel, by decide +kernel⟩
abbrev s_TakingBack_init : Stmt := inClass (top 9) 0
abbrev N_TakingBack_init : List Str := ["self", "deed"]
theorem sc_TakingBack_init : FnScope N_TakingBack_init ["self", "deed"] (defScope s_TakingBack_init) := ⟨rfl, rfl, rfl, by decide +kernel, rfl, by decide +kernel, by decide +kernel⟩
abbrev s_DoingAgain_init : Stmt := inClass (top 10) 0
abbrev N_DoingAgain_init : List Str := ["self", "deed"]
theorem sc_DoingAgain_init : FnScope N_DoingAgain_init ["self", "deed"] (defScope s_DoingAgain_init) := ⟨rfl, rfl, rfl, by decide +kernel, rfl, by decide +kernel, by decide +kernel⟩
abbrev s_Deed_init : Stmt := inClass (top 11) 0
abbrev N_Deed_init : List Str := ["self", "number", "desk", "rank", "count", "saw", "act"]
theorem sc_Deed_init : FnScope N_Deed_init ["self", "number", "desk", "rank", "count", "saw", "act"] (defScope s_Deed_init) := ⟨rfl, rfl, rfl, by decide +kernel, rfl, by decide +kernel, by decide +kernel⟩
abbrev s_stamp : Stmt := top 12
abbrev N_stamp : List Str := ["deed"]
theorem sc_stamp : FnScope N_stamp ["deed"] (defScope s_stamp) := ⟨rfl, rfl, rfl, by decide +kernel, rfl, by decide +kernel, by decide +kernel⟩
abbrev s_is_change : Stmt := top 13
abbrev N_is_change : List Str := ["deed"]
theorem sc_is_change : FnScope N_is_change ["deed"] (defScope s_is_change) := ⟨rfl, rfl, rfl, by decide +kernel, rfl, by decide +kernel, by decide +kernel⟩
abbrev s_is_in_reach : Stmt := top 14
abbrev N_is_in_reach : List Str := ["count", "deed"]
theorem sc_is_in_reach : FnScope N_is_in_reach ["count", "deed"] (defScope s_is_in_reach) := ⟨rfl, rfl, rfl, by decide +kernel, rfl, by decide +kernel, by decide +kernel⟩
abbrev s_has_seen : Stmt := top 15
abbrev N_has_seen : List Str := ["deed", "other"]
theorem sc_has_seen : FnScope N_has_seen ["deed", "other"] (defScope s_has_seen) := ⟨rfl, rfl, rfl, by decide +kernel, rfl, by decide +kernel, by decide +kernel⟩
abbrev s_tellings_of : Stmt := top 18
abbrev N_tellings_of : List Str := ["held", "thing", "field", "about", "deed"]
theorem sc_tellings_of : FnScope N_tellings_of ["held", "thing", "field"] (defScope s_tellings_of) := ⟨rfl, rfl, rfl, by decide +kernel, rfl, by decide +kernel, by decide +kernel⟩
abbrev s_is_about : Stmt := top 19
abbrev N_is_about : List Str := ["deed", "thing", "field"]
theorem sc_is_about : FnScope N_is_about ["deed", "thing", "field"] (defScope s_is_about) := ⟨rfl, rfl, rfl, by decide +kernel, rfl, by decide +kernel, by decide +kernel⟩
abbrev s_is_seen : Stmt := top 20
abbrev N_is_seen : List Str := ["deeds", "other", "deed"]
theorem sc_is_seen : FnScope N_is_seen ["deeds", "other"] (defScope s_is_seen) := ⟨rfl, rfl, rfl, by decide +kernel, rfl, by decide +kernel, by decide +kernel⟩
abbrev s_amount_of : Stmt := top 21
abbrev N_amount_of : List Str := ["held", "thing", "deed"]
theorem sc_amount_of : FnScope N_amount_of ["held", "thing"] (defScope s_amount_of) := ⟨rfl, rfl, rfl, by decide +kernel, rfl, by decide +kernel, by decide +kernel⟩
abbrev s_holding : Stmt := top 23
abbrev N_holding : List Str := ["deeds", "changes", "taken", "deed"]
theorem sc_holding : FnScope N_holding ["deeds"] (defScope s_holding) := ⟨rfl, rfl, rfl, by decide +kernel, rfl, by decide +kernel, by decide +kernel⟩
abbrev s_puts_under : Stmt := top 33
abbrev N_puts_under : List Str := ["deeds", "under", "deed"]
theorem sc_puts_under : FnScope N_puts_under ["deeds", "under"] (defScope s_puts_under) := ⟨rfl, rfl, rfl, by decide +kernel, rfl, by decide +kernel, by decide +kernel⟩
abbrev s_spots_under : Stmt := top 34
abbrev N_spots_under : List Str := ["deeds", "under", "lefts", "rights", "put", "whole"]
theorem sc_spots_under : FnScope N_spots_under ["deeds", "under"] (defScope s_spots_under) := ⟨rfl, rfl, rfl, by decide +kernel, rfl, by decide +kernel, by decide +kernel⟩
abbrev s_right_behind : Stmt := top 35
abbrev N_right_behind : List Str := ["deeds", "under", "spot", "numbers", "put"]
theorem sc_right_behind : FnScope N_right_behind ["deeds", "under", "spot"] (defScope s_right_behind) := ⟨rfl, rfl, rfl, by decide +kernel, rfl, by decide +kernel, by decide +kernel⟩
abbrev s_has_right : Stmt := top 36
abbrev N_has_right : List Str := ["deeds", "under", "spot", "put"]
theorem sc_has_right : FnScope N_has_right ["deeds", "under", "spot"] (defScope s_has_right) := ⟨rfl, rfl, rfl, by decide +kernel, rfl, by decide +kernel, by decide +kernel⟩
abbrev s_Desk_init : Stmt := inClass (top 40) 0
abbrev N_Desk_init : List Str := ["self", "desks", "other"]
theorem sc_Desk_init : FnScope N_Desk_init ["self", "desks"] (defScope s_Desk_init) := ⟨rfl, rfl, rfl, by decide +kernel, rfl, by decide +kernel, by decide +kernel⟩
abbrev s_Letter_init : Stmt := inClass (top 41) 0
abbrev N_Letter_init : List Str := ["self", "source", "target", "counts", "greatest", "deeds"]
theorem sc_Letter_init : FnScope N_Letter_init ["self", "source", "target", "counts", "greatest", "deeds"] (defScope s_Letter_init) := ⟨rfl, rfl, rfl, by decide +kernel, rfl, by decide +kernel, by decide +kernel⟩
abbrev s_House_init : Stmt := inClass (top 42) 0
abbrev N_House_init : List Str := ["self", "desks"]
theorem sc_House_init : FnScope N_House_init ["self", "desks"] (defScope s_House_init) := ⟨rfl, rfl, rfl, by decide +kernel, rfl, by decide +kernel, by decide +kernel⟩
abbrev s_House_start : Stmt := inClass (top 42) 1
abbrev N_House_start : List Str := ["self", "desks", "number"]
theorem sc_House_start : FnScope N_House_start ["self", "desks"] (defScope s_House_start) := ⟨rfl, rfl, rfl, by decide +kernel, rfl, by decide +kernel, by decide +kernel⟩
abbrev s_has_desk : Stmt := top 43
abbrev N_has_desk : List Str := ["house", "desk"]
theorem sc_has_desk : FnScope N_has_desk ["house", "desk"] (defScope s_has_desk) := ⟨rfl, rfl, rfl, by decide +kernel, rfl, by decide +kernel, by decide +kernel⟩
abbrev s_is_full : Stmt := top 44
abbrev N_is_full : List Str := ["house"]
theorem sc_is_full : FnScope N_is_full ["house"] (defScope s_is_full) := ⟨rfl, rfl, rfl, by decide +kernel, rfl, by decide +kernel, by decide +kernel⟩
abbrev s_had : Stmt := top 45
abbrev N_had : List Str := ["house", "desk", "counts", "deed"]
theorem sc_had : FnScope N_had ["house", "desk"] (defScope s_had) := ⟨rfl, rfl, rfl, by decide +kernel, rfl, by decide +kernel, by decide +kernel⟩
abbrev s_others_of : Stmt := top 46
abbrev N_others_of : List Str := ["house", "desk", "other"]
theorem sc_others_of : FnScope N_others_of ["house", "desk"] (defScope s_others_of) := ⟨rfl, rfl, rfl, by decide +kernel, rfl, by decide +kernel, by decide +kernel⟩
abbrev s_next_count : Stmt := top 47
abbrev N_next_count : List Str := ["house", "desk"]
theorem sc_next_count : FnScope N_next_count ["house", "desk"] (defScope s_next_count) := ⟨rfl, rfl, rfl, by decide +kernel, rfl, by decide +kernel, by decide +kernel⟩
abbrev s_do_deed : Stmt := top 48
abbrev N_do_deed : List Str := ["house", "desk", "act", "doer", "saw", "number"]
theorem sc_do_deed : FnScope N_do_deed ["house", "desk", "act"] (defScope s_do_deed) := ⟨rfl, rfl, rfl, by decide +kernel, rfl, by decide +kernel, by decide +kernel⟩
abbrev s_places_of : Stmt := top 52
abbrev N_places_of : List Str := ["held", "places", "deed"]
theorem sc_places_of : FnScope N_places_of ["held"] (defScope s_places_of) := ⟨rfl, rfl, rfl, by decide +kernel, rfl, by decide +kernel, by decide +kernel⟩
abbrev s_can_be_put : Stmt := top 53
abbrev N_can_be_put : List Str := ["places", "thing", "under"]
theorem sc_can_be_put : FnScope N_can_be_put ["places", "thing", "under"] (defScope s_can_be_put) := ⟨rfl, rfl, rfl, by decide +kernel, rfl, by decide +kernel, by decide +kernel⟩
abbrev s_is_there : Stmt := top 54
abbrev N_is_there : List Str := ["places", "thing"]
theorem sc_is_there : FnScope N_is_there ["places", "thing"] (defScope s_is_there) := ⟨rfl, rfl, rfl, by decide +kernel, rfl, by decide +kernel, by decide +kernel⟩
abbrev s_line_up : Stmt := top 55
abbrev N_line_up : List Str := ["places", "thing", "found"]
theorem sc_line_up : FnScope N_line_up ["places", "thing"] (defScope s_line_up) := ⟨rfl, rfl, rfl, by decide +kernel, rfl, by decide +kernel, by decide +kernel⟩
abbrev s_Outline_init : Stmt := inClass (top 57) 0
abbrev N_Outline_init : List Str := ["self", "deeds"]
theorem sc_Outline_init : FnScope N_Outline_init ["self", "deeds"] (defScope s_Outline_init) := ⟨rfl, rfl, rfl, by decide +kernel, rfl, by decide +kernel, by decide +kernel⟩
abbrev s_outline_of : Stmt := top 58
abbrev N_outline_of : List Str := ["house", "desk"]
theorem sc_outline_of : FnScope N_outline_of ["house", "desk"] (defScope s_outline_of) := ⟨rfl, rfl, rfl, by decide +kernel, rfl, by decide +kernel, by decide +kernel⟩
abbrev s_refusal_about : Stmt := top 59
abbrev N_refusal_about : List Str := ["house", "desk", "thing"]
theorem sc_refusal_about : FnScope N_refusal_about ["house", "desk", "thing"] (defScope s_refusal_about) := ⟨rfl, rfl, rfl, by decide +kernel, rfl, by decide +kernel, by decide +kernel⟩
abbrev s_row_of : Stmt := top 60
abbrev N_row_of : List Str := ["outline", "under", "put"]
theorem sc_row_of : FnScope N_row_of ["outline", "under"] (defScope s_row_of) := ⟨rfl, rfl, rfl, by decide +kernel, rfl, by decide +kernel, by decide +kernel⟩
abbrev s_is_by : Stmt := top 61
abbrev N_is_by : List Str := ["places", "put"]
theorem sc_is_by : FnScope N_is_by ["places", "put"] (defScope s_is_by) := ⟨rfl, rfl, rfl, by decide +kernel, rfl, by decide +kernel, by decide +kernel⟩
abbrev s_things_in_row : Stmt := top 62
abbrev N_things_in_row : List Str := ["outline", "under", "put"]
theorem sc_things_in_row : FnScope N_things_in_row ["outline", "under"] (defScope s_things_in_row) := ⟨rfl, rfl, rfl, by decide +kernel, rfl, by decide +kernel, by decide +kernel⟩
abbrev s_within : Stmt := top 63
abbrev N_within : List Str := ["outline", "thing", "found", "waiting", "pair", "other"]
theorem sc_within : FnScope N_within ["outline", "thing"] (defScope s_within) := ⟨rfl, rfl, rfl, by decide +kernel, rfl, by decide +kernel, by decide +kernel⟩
abbrev s_ask_tree : Stmt := top 65
abbrev N_ask_tree : List Str := ["house", "desk", "thing", "refusal"]
theorem sc_ask_tree : FnScope N_ask_tree ["house", "desk", "thing"] (defScope s_ask_tree) := ⟨rfl, rfl, rfl, by decide +kernel, rfl, by decide +kernel, by decide +kernel⟩
abbrev s_ask_row : Stmt := top 66
abbrev N_ask_row : List Str := ["house", "desk", "thing", "refusal"]
theorem sc_ask_row : FnScope N_ask_row ["house", "desk", "thing"] (defScope s_ask_row) := ⟨rfl, rfl, rfl, by decide +kernel, rfl, by decide +kernel, by decide +kernel⟩
abbrev s_ask_line : Stmt := top 67
abbrev N_ask_line : List Str := ["house", "desk", "thing", "refusal"]
theorem sc_ask_line : FnScope N_ask_line ["house", "desk", "thing"] (defScope s_ask_line) := ⟨rfl, rfl, rfl, by decide +kernel, rfl, by decide +kernel, by decide +kernel⟩
abbrev s_ask_values : Stmt := top 68
abbrev N_ask_values : List Str := ["house", "desk", "thing", "field", "refusal", "tellings", "deed"]
theorem sc_ask_values : FnScope N_ask_values ["house", "desk", "thing", "field"] (defScope s_ask_values) := ⟨rfl, rfl, rfl, by decide +kernel, rfl, by decide +kernel, by decide +kernel⟩
abbrev s_ask_amounts : Stmt := top 69
abbrev N_ask_amounts : List Str := ["house", "desk", "thing", "refusal", "outline", "inner", "pair", "own"]
theorem sc_ask_amounts : FnScope N_ask_amounts ["house", "desk", "thing"] (defScope s_ask_amounts) := ⟨rfl, rfl, rfl, by decide +kernel, rfl, by decide +kernel, by decide +kernel⟩
abbrev s_ask_find : Stmt := top 70
abbrev N_ask_find : List Str := ["house", "desk", "field", "value", "outline", "things", "pair", "thing"]
theorem sc_ask_find : FnScope N_ask_find ["house", "desk", "field", "value"] (defScope s_ask_find) := ⟨rfl, rfl, rfl, by decide +kernel, rfl, by decide +kernel, by decide +kernel⟩
abbrev s_has_value : Stmt := top 71
abbrev N_has_value : List Str := ["held", "thing", "field", "value", "deed"]
theorem sc_has_value : FnScope N_has_value ["held", "thing", "field", "value"] (defScope s_has_value) := ⟨rfl, rfl, rfl, by decide +kernel, rfl, by decide +kernel, by decide +kernel⟩
abbrev s_ask_same : Stmt := top 72
abbrev N_ask_same : List Str := ["house", "desk", "other", "same_counts", "same_tree"]
theorem sc_ask_same : FnScope N_ask_same ["house", "desk", "other"] (defScope s_ask_same) := ⟨rfl, rfl, rfl, by decide +kernel, rfl, by decide +kernel, by decide +kernel⟩
abbrev s_counted : Stmt := top 73
abbrev N_counted : List Str := ["numbers"]
theorem sc_counted : FnScope N_counted ["numbers"] (defScope s_counted) := ⟨rfl, rfl, rfl, by decide +kernel, rfl, by decide +kernel, by decide +kernel⟩
abbrev s_counted_pairs : Stmt := top 74
abbrev N_counted_pairs : List Str := ["pairs", "told", "pair"]
theorem sc_counted_pairs : FnScope N_counted_pairs ["pairs"] (defScope s_counted_pairs) := ⟨rfl, rfl, rfl, by decide +kernel, rfl, by decide +kernel, by decide +kernel⟩
abbrev s_begin : Stmt := top 78
abbrev N_begin : List Str := ["house", "desks"]
theorem sc_begin : FnScope N_begin ["house", "desks"] (defScope s_begin) := ⟨rfl, rfl, rfl, by decide +kernel, rfl, by decide +kernel, by decide +kernel⟩
abbrev s_make : Stmt := top 79
abbrev N_make : List Str := ["house", "desk", "under", "i", "outline", "row", "thing"]
theorem sc_make : FnScope N_make ["house", "desk", "under", "i"] (defScope s_make) := ⟨rfl, rfl, rfl, by decide +kernel, rfl, by decide +kernel, by decide +kernel⟩
abbrev s_move : Stmt := top 80
abbrev N_move : List Str := ["house", "desk", "thing", "under", "i", "outline", "others", "put"]
theorem sc_move : FnScope N_move ["house", "desk", "thing", "under", "i"] (defScope s_move) := ⟨rfl, rfl, rfl, by decide +kernel, rfl, by decide +kernel, by decide +kernel⟩
abbrev s_can_move : Stmt := top 81
abbrev N_can_move : List Str := ["places", "thing"]
theorem sc_can_move : FnScope N_can_move ["places", "thing"] (defScope s_can_move) := ⟨rfl, rfl, rfl, by decide +kernel, rfl, by decide +kernel, by decide +kernel⟩
abbrev s_put_behind : Stmt := top 82
abbrev N_put_behind : List Str := ["outline", "thing", "under", "row", "i", "spot", "place"]
theorem sc_put_behind : FnScope N_put_behind ["outline", "thing", "under", "row", "i"] (defScope s_put_behind) := ⟨rfl, rfl, rfl, by decide +kernel, rfl, by decide +kernel, by decide +kernel⟩
abbrev s_tell : Stmt := top 83
abbrev N_tell : List Str := ["house", "desk", "thing", "field", "value"]
theorem sc_tell : FnScope N_tell ["house", "desk", "thing", "field", "value"] (defScope s_tell) := ⟨rfl, rfl, rfl, by decide +kernel, rfl, by decide +kernel, by decide +kernel⟩
abbrev s_clear_field : Stmt := top 84
abbrev N_clear_field : List Str := ["house", "desk", "thing", "field"]
theorem sc_clear_field : FnScope N_clear_field ["house", "desk", "thing", "field"] (defScope s_clear_field) := ⟨rfl, rfl, rfl, by decide +kernel, rfl, by decide +kernel, by decide +kernel⟩
abbrev s_add_amount : Stmt := top 85
abbrev N_add_amount : List Str := ["house", "desk", "thing", "amount"]
theorem sc_add_amount : FnScope N_add_amount ["house", "desk", "thing", "amount"] (defScope s_add_amount) := ⟨rfl, rfl, rfl, by decide +kernel, rfl, by decide +kernel, by decide +kernel⟩
abbrev s_less_amount : Stmt := top 86
abbrev N_less_amount : List Str := ["house", "desk", "thing", "amount"]
theorem sc_less_amount : FnScope N_less_amount ["house", "desk", "thing", "amount"] (defScope s_less_amount) := ⟨rfl, rfl, rfl, by decide +kernel, rfl, by decide +kernel, by decide +kernel⟩
abbrev s_do_to_thing : Stmt := top 87
abbrev N_do_to_thing : List Str := ["house", "desk", "is_wrong", "act", "refusal"]
theorem sc_do_to_thing : FnScope N_do_to_thing ["house", "desk", "is_wrong", "act"] (defScope s_do_to_thing) := ⟨rfl, rfl, rfl, by decide +kernel, rfl, by decide +kernel, by decide +kernel⟩
abbrev s_refusal_to_thing : Stmt := top 88
abbrev N_refusal_to_thing : List Str := ["house", "desk", "is_wrong", "thing", "refusal"]
theorem sc_refusal_to_thing : FnScope N_refusal_to_thing ["house", "desk", "is_wrong", "thing"] (defScope s_refusal_to_thing) := ⟨rfl, rfl, rfl, by decide +kernel, rfl, by decide +kernel, by decide +kernel⟩
abbrev s_forget : Stmt := top 90
abbrev N_forget : List Str := ["house", "desk", "ripe", "forgotten", "deed"]
theorem sc_forget : FnScope N_forget ["house", "desk"] (defScope s_forget) := ⟨rfl, rfl, rfl, by decide +kernel, rfl, by decide +kernel, by decide +kernel⟩
abbrev s_ask_kept : Stmt := top 91
abbrev N_ask_kept : List Str := ["house", "desk", "many"]
theorem sc_ask_kept : FnScope N_ask_kept ["house", "desk"] (defScope s_ask_kept) := ⟨rfl, rfl, rfl, by decide +kernel, rfl, by decide +kernel, by decide +kernel⟩
abbrev s_kept_deeds : Stmt := top 92
abbrev N_kept_deeds : List Str := ["house", "desk", "forgotten", "deed"]
theorem sc_kept_deeds : FnScope N_kept_deeds ["house", "desk"] (defScope s_kept_deeds) := ⟨rfl, rfl, rfl, by decide +kernel, rfl, by decide +kernel, by decide +kernel⟩
abbrev s_ripe_deeds : Stmt := top 93
abbrev N_ripe_deeds : List Str := ["house", "desk", "settled", "ripe", "deed"]
theorem sc_ripe_deeds : FnScope N_ripe_deeds ["house", "desk"] (defScope s_ripe_deeds) := ⟨rfl, rfl, rfl, by decide +kernel, rfl, by decide +kernel, by decide +kernel⟩
abbrev s_settled_count : Stmt := top 94
abbrev N_settled_count : List Str := ["house", "desk", "asked", "other"]
theorem sc_settled_count : FnScope N_settled_count ["house", "desk"] (defScope s_settled_count) := ⟨rfl, rfl, rfl, by decide +kernel, rfl, by decide +kernel, by decide +kernel⟩
abbrev s_is_sure_of_all : Stmt := top 95
abbrev N_is_sure_of_all : List Str := ["house", "desk", "deed", "sure", "other"]
theorem sc_is_sure_of_all : FnScope N_is_sure_of_all ["house", "desk", "deed"] (defScope s_is_sure_of_all) := ⟨rfl, rfl, rfl, by decide +kernel, rfl, by decide +kernel, by decide +kernel⟩
abbrev s_send : Stmt := top 98
abbrev N_send : List Str := ["house", "source", "target", "letter"]
theorem sc_send : FnScope N_send ["house", "source", "target"] (defScope s_send) := ⟨rfl, rfl, rfl, by decide +kernel, rfl, by decide +kernel, by decide +kernel⟩
abbrev s_written : Stmt := top 99
abbrev N_written : List Str := ["house", "source", "target", "desk", "deeds"]
theorem sc_written : FnScope N_written ["house", "source", "target"] (defScope s_written) := ⟨rfl, rfl, rfl, by decide +kernel, rfl, by decide +kernel, by decide +kernel⟩
abbrev s_unsure : Stmt := top 100
abbrev N_unsure : List Str := ["house", "source", "target", "sure", "deed"]
theorem sc_unsure : FnScope N_unsure ["house", "source", "target"] (defScope s_unsure) := ⟨rfl, rfl, rfl, by decide +kernel, rfl, by decide +kernel, by decide +kernel⟩
abbrev s_comes : Stmt := top 101
abbrev N_comes : List Str := ["house", "number", "letter", "before"]
theorem sc_comes : FnScope N_comes ["house", "number"] (defScope s_comes) := ⟨rfl, rfl, rfl, by decide +kernel, rfl, by decide +kernel, by decide +kernel⟩
abbrev s_hear : Stmt := top 102
abbrev N_hear : List Str := ["desk", "letter"]
theorem sc_hear : FnScope N_hear ["desk", "letter"] (defScope s_hear) := ⟨rfl, rfl, rfl, by decide +kernel, rfl, by decide +kernel, by decide +kernel⟩
abbrev s_greater_of_each : Stmt := top 103
abbrev N_greater_of_each : List Str := ["counts", "others", "k"]
theorem sc_greater_of_each : FnScope N_greater_of_each ["counts", "others"] (defScope s_greater_of_each) := ⟨rfl, rfl, rfl, by decide +kernel, rfl, by decide +kernel, by decide +kernel⟩
abbrev s_back : Stmt := top 105
abbrev N_back : List Str := ["house", "desk", "deed"]
theorem sc_back : FnScope N_back ["house", "desk", "deed"] (defScope s_back) := ⟨rfl, rfl, rfl, by decide +kernel, rfl, by decide +kernel, by decide +kernel⟩
abbrev s_undo : Stmt := top 106
abbrev N_undo : List Str := ["house", "desk", "own", "deed"]
theorem sc_undo : FnScope N_undo ["house", "desk"] (defScope s_undo) := ⟨rfl, rfl, rfl, by decide +kernel, rfl, by decide +kernel, by decide +kernel⟩
abbrev s_redo : Stmt := top 107
abbrev N_redo : List Str := ["house", "desk", "deed"]
theorem sc_redo : FnScope N_redo ["house", "desk"] (defScope s_redo) := ⟨rfl, rfl, rfl, by decide +kernel, rfl, by decide +kernel, by decide +kernel⟩
abbrev s_taken_last : Stmt := top 108
abbrev N_taken_last : List Str := ["house", "desk", "held", "own", "deed"]
theorem sc_taken_last : FnScope N_taken_last ["house", "desk"] (defScope s_taken_last) := ⟨rfl, rfl, rfl, by decide +kernel, rfl, by decide +kernel, by decide +kernel⟩
abbrev s_is_own_change : Stmt := top 109
abbrev N_is_own_change : List Str := ["deed", "desk"]
theorem sc_is_own_change : FnScope N_is_own_change ["deed", "desk"] (defScope s_is_own_change) := ⟨rfl, rfl, rfl, by decide +kernel, rfl, by decide +kernel, by decide +kernel⟩
abbrev s_numbers_held : Stmt := top 110
abbrev N_numbers_held : List Str := ["house", "desk", "deed"]
theorem sc_numbers_held : FnScope N_numbers_held ["house", "desk"] (defScope s_numbers_held) := ⟨rfl, rfl, rfl, by decide +kernel, rfl, by decide +kernel, by decide +kernel⟩
abbrev s_is_too_late : Stmt := top 111
abbrev N_is_too_late : List Str := ["house", "desk", "deed"]
theorem sc_is_too_late : FnScope N_is_too_late ["house", "desk", "deed"] (defScope s_is_too_late) := ⟨rfl, rfl, rfl, by decide +kernel, rfl, by decide +kernel, by decide +kernel⟩
abbrev s_answers : Stmt := top 134
abbrev N_answers : List Str := ["calls"]
theorem sc_answers : FnScope N_answers ["calls"] (defScope s_answers) := ⟨rfl, rfl, rfl, by decide +kernel, rfl, by decide +kernel, by decide +kernel⟩
abbrev s_answers_of : Stmt := top 135
abbrev N_answers_of : List Str := ["house", "calls", "told", "start", "end", "answer"]
theorem sc_answers_of : FnScope N_answers_of ["house", "calls"] (defScope s_answers_of) := ⟨rfl, rfl, rfl, by decide +kernel, rfl, by decide +kernel, by decide +kernel⟩
abbrev s_answer_of : Stmt := top 136
abbrev N_answer_of : List Str := ["house", "call", "numbers"]
theorem sc_answer_of : FnScope N_answer_of ["house", "call", "numbers"] (defScope s_answer_of) := ⟨rfl, rfl, rfl, by decide +kernel, rfl, by decide +kernel, by decide +kernel⟩
abbrev s_answer_of_change : Stmt := top 137
abbrev N_answer_of_change : List Str := ["house", "call", "numbers"]
theorem sc_answer_of_change : FnScope N_answer_of_change ["house", "call", "numbers"] (defScope s_answer_of_change) := ⟨rfl, rfl, rfl, by decide +kernel, rfl, by decide +kernel, by decide +kernel⟩
abbrev s_answer_of_taking : Stmt := top 138
abbrev N_answer_of_taking : List Str := ["house", "call", "numbers"]
theorem sc_answer_of_taking : FnScope N_answer_of_taking ["house", "call", "numbers"] (defScope s_answer_of_taking) := ⟨rfl, rfl, rfl, by decide +kernel, rfl, by decide +kernel, by decide +kernel⟩
abbrev s_answer_of_keeping : Stmt := top 139
abbrev N_answer_of_keeping : List Str := ["house", "call", "numbers"]
theorem sc_answer_of_keeping : FnScope N_answer_of_keeping ["house", "call", "numbers"] (defScope s_answer_of_keeping) := ⟨rfl, rfl, rfl, by decide +kernel, rfl, by decide +kernel, by decide +kernel⟩
abbrev s_answer_of_question : Stmt := top 140
abbrev N_answer_of_question : List Str := ["house", "call", "numbers"]
theorem sc_answer_of_question : FnScope N_answer_of_question ["house", "call", "numbers"] (defScope s_answer_of_question) := ⟨rfl, rfl, rfl, by decide +kernel, rfl, by decide +kernel, by decide +kernel⟩
/-- where classes and defs stand -/
structure Ad where
  Put : Addr
  Telling : Addr
  Clearing : Addr
  Adding : Addr
  TakingBack : Addr
  DoingAgain : Addr
  Deed : Addr
  Desk : Addr
  Letter : Addr
  House : Addr
  Outline : Addr
  f_Put_init : Addr
  f_Telling_init : Addr
  f_Clearing_init : Addr
  f_Adding_init : Addr
  f_TakingBack_init : Addr
  f_DoingAgain_init : Addr
  f_Deed_init : Addr
  f_stamp : Addr
  f_is_change : Addr
  f_is_in_reach : Addr
  f_has_seen : Addr
  f_tellings_of : Addr
  f_is_about : Addr
  f_is_seen : Addr
  f_amount_of : Addr
  f_holding : Addr
  f_puts_under : Addr
  f_spots_under : Addr
  f_right_behind : Addr
  f_has_right : Addr
  f_Desk_init : Addr
  f_Letter_init : Addr
  f_House_init : Addr
  f_House_start : Addr
  f_has_desk : Addr
  f_is_full : Addr
  f_had : Addr
  f_others_of : Addr
  f_next_count : Addr
  f_do_deed : Addr
  f_places_of : Addr
  f_can_be_put : Addr
  f_is_there : Addr
  f_line_up : Addr
  f_Outline_init : Addr
  f_outline_of : Addr
  f_refusal_about : Addr
  f_row_of : Addr
  f_is_by : Addr
  f_things_in_row : Addr
  f_within : Addr
  f_ask_tree : Addr
  f_ask_row : Addr
  f_ask_line : Addr
  f_ask_values : Addr
  f_ask_amounts : Addr
  f_ask_find : Addr
  f_has_value : Addr
  f_ask_same : Addr
  f_counted : Addr
  f_counted_pairs : Addr
  f_begin : Addr
  f_make : Addr
  f_move : Addr
  f_can_move : Addr
  f_put_behind : Addr
  f_tell : Addr
  f_clear_field : Addr
  f_add_amount : Addr
  f_less_amount : Addr
  f_do_to_thing : Addr
  f_refusal_to_thing : Addr
  f_forget : Addr
  f_ask_kept : Addr
  f_kept_deeds : Addr
  f_ripe_deeds : Addr
  f_settled_count : Addr
  f_is_sure_of_all : Addr
  f_send : Addr
  f_written : Addr
  f_unsure : Addr
  f_comes : Addr
  f_hear : Addr
  f_greater_of_each : Addr
  f_back : Addr
  f_undo : Addr
  f_redo : Addr
  f_taken_last : Addr
  f_is_own_change : Addr
  f_numbers_held : Addr
  f_is_too_late : Addr
  f_answers : Addr
  f_answers_of : Addr
  f_answer_of : Addr
  f_answer_of_change : Addr
  f_answer_of_taking : Addr
  f_answer_of_keeping : Addr
  f_answer_of_question : Addr
  a_SIZES : Addr
structure Fd where
  d_Put_init : FuncData
  d_Telling_init : FuncData
  d_Clearing_init : FuncData
  d_Adding_init : FuncData
  d_TakingBack_init : FuncData
  d_DoingAgain_init : FuncData
  d_Deed_init : FuncData
  d_stamp : FuncData
  d_is_change : FuncData
  d_is_in_reach : FuncData
  d_has_seen : FuncData
  d_tellings_of : FuncData
  d_is_about : FuncData
  d_is_seen : FuncData
  d_amount_of : FuncData
  d_holding : FuncData
  d_puts_under : FuncData
  d_spots_under : FuncData
  d_right_behind : FuncData
  d_has_right : FuncData
  d_Desk_init : FuncData
  d_Letter_init : FuncData
  d_House_init : FuncData
  d_House_start : FuncData
  d_has_desk : FuncData
  d_is_full : FuncData
  d_had : FuncData
  d_others_of : FuncData
  d_next_count : FuncData
  d_do_deed : FuncData
  d_places_of : FuncData
  d_can_be_put : FuncData
  d_is_there : FuncData
  d_line_up : FuncData
  d_Outline_init : FuncData
  d_outline_of : FuncData
  d_refusal_about : FuncData
  d_row_of : FuncData
  d_is_by : FuncData
  d_things_in_row : FuncData
  d_within : FuncData
  d_ask_tree : FuncData
  d_ask_row : FuncData
  d_ask_line : FuncData
  d_ask_values : FuncData
  d_ask_amounts : FuncData
  d_ask_find : FuncData
  d_has_value : FuncData
  d_ask_same : FuncData
  d_counted : FuncData
  d_counted_pairs : FuncData
  d_begin : FuncData
  d_make : FuncData
  d_move : FuncData
  d_can_move : FuncData
  d_put_behind : FuncData
  d_tell : FuncData
  d_clear_field : FuncData
  d_add_amount : FuncData
  d_less_amount : FuncData
  d_do_to_thing : FuncData
  d_refusal_to_thing : FuncData
  d_forget : FuncData
  d_ask_kept : FuncData
  d_kept_deeds : FuncData
  d_ripe_deeds : FuncData
  d_settled_count : FuncData
  d_is_sure_of_all : FuncData
  d_send : FuncData
  d_written : FuncData
  d_unsure : FuncData
  d_comes : FuncData
  d_hear : FuncData
  d_greater_of_each : FuncData
  d_back : FuncData
  d_undo : FuncData
  d_redo : FuncData
  d_taken_last : FuncData
  d_is_own_change : FuncData
  d_numbers_held : FuncData
  d_is_too_late : FuncData
  d_answers : FuncData
  d_answers_of : FuncData
  d_answer_of : FuncData
  d_answer_of_change : FuncData
  d_answer_of_taking : FuncData
  d_answer_of_keeping : FuncData
  d_answer_of_question : FuncData
/-- what the top has written -/
structure Txt (K : PySem.W.Frag) (mg : Str → Option Value) (A : Ad) (D : Fd) : Prop where
  n_all : mg "all" = none
  n_any : mg "any" = none
  n_isinstance : mg "isinstance" = none
  n_len : mg "len" = none
  n_list : mg "list" = none
  n_max : mg "max" = none
  n_min : mg "min" = none
  n_range : mg "range" = none
  n_reversed : mg "reversed" = none
  n_sorted : mg "sorted" = none
  n_sum : mg "sum" = none
  g_LEFT : ∃ t, mg "LEFT" = some (.int (0) t)
  g_RIGHT : ∃ t, mg "RIGHT" = some (.int (1) t)
  g_BEGINNING : ∃ t, mg "BEGINNING" = some (.int (-1) t)
  g_REACH : ∃ t, mg "REACH" = some (.int (20) t)
  g_LAST_FIELD : ∃ t, mg "LAST_FIELD" = some (.int (2) t)
  g_NOT_REFUSED : ∃ t, mg "NOT_REFUSED" = some (.int (0) t)
  g_WRONG : ∃ t, mg "WRONG" = some (.int (-1) t)
  g_NO_DESK : ∃ t, mg "NO_DESK" = some (.int (-2) t)
  g_NO_LETTER : ∃ t, mg "NO_LETTER" = some (.int (-2) t)
  g_NOT_THERE : ∃ t, mg "NOT_THERE" = some (.int (-3) t)
  g_TOO_LATE : ∃ t, mg "TOO_LATE" = some (.int (-4) t)
  g_FULL : ∃ t, mg "FULL" = some (.int (-5) t)
  g_WITHIN : ∃ t, mg "WITHIN" = some (.int (-6) t)
  g_MOST_DEEDS : ∃ t, mg "MOST_DEEDS" = some (.int (100) t)
  g_FIRST_MADE : ∃ t, mg "FIRST_MADE" = some (.int (2) t)
  g_ROOT : ∃ t, mg "ROOT" = some (.int (0) t)
  g_BIN : ∃ t, mg "BIN" = some (.int (1) t)
  g_MOST_DESKS : ∃ t, mg "MOST_DESKS" = some (.int (6) t)
  g_GREATEST_TOLD : ∃ t, mg "GREATEST_TOLD" = some (.int (1000000000) t)
  g_MOST_LETTERS : ∃ t, mg "MOST_LETTERS" = some (.int (200) t)
  g_BEGIN : ∃ t, mg "BEGIN" = some (.int (1) t)
  g_MAKE : ∃ t, mg "MAKE" = some (.int (2) t)
  g_MOVE : ∃ t, mg "MOVE" = some (.int (3) t)
  g_TELL : ∃ t, mg "TELL" = some (.int (4) t)
  g_CLEAR : ∃ t, mg "CLEAR" = some (.int (5) t)
  g_ADD : ∃ t, mg "ADD" = some (.int (6) t)
  g_LESS : ∃ t, mg "LESS" = some (.int (7) t)
  g_BACK : ∃ t, mg "BACK" = some (.int (8) t)
  g_UNDO : ∃ t, mg "UNDO" = some (.int (9) t)
  g_REDO : ∃ t, mg "REDO" = some (.int (10) t)
  g_SEND : ∃ t, mg "SEND" = some (.int (11) t)
  g_COMES : ∃ t, mg "COMES" = some (.int (12) t)
  g_FORGET : ∃ t, mg "FORGET" = some (.int (13) t)
  g_TREE : ∃ t, mg "TREE" = some (.int (14) t)
  g_ROW : ∃ t, mg "ROW" = some (.int (15) t)
  g_LINE : ∃ t, mg "LINE" = some (.int (16) t)
  g_VALUES : ∃ t, mg "VALUES" = some (.int (17) t)
  g_AMOUNTS : ∃ t, mg "AMOUNTS" = some (.int (18) t)
  g_FIND : ∃ t, mg "FIND" = some (.int (19) t)
  g_KEPT : ∃ t, mg "KEPT" = some (.int (20) t)
  c_SIZES : mg "SIZES" = some (.ref A.a_SIZES)
  tb_SIZES : TbAt K A.a_SIZES [(1, 1), (2, 3), (3, 4), (4, 4), (5, 3), (6, 3), (7, 3), (8, 2), (9, 1), (10, 1), (11, 2), (12, 1), (13, 1), (14, 2), (15, 2), (16, 2), (17, 3), (18, 2), (19, 3), (20, 1), (21, 2)]
  c_Put : mg "Put" = some (.ref A.Put)
  cl_Put : Cls K A.Put
  na_Put_thing : NoAttr K A.Put "thing"
  na_Put_under : NoAttr K A.Put "under"
  na_Put_at : NoAttr K A.Put "at"
  na_Put_side : NoAttr K A.Put "side"
  mk_Put : Mk K A.Put A.f_Put_init
  c_Telling : mg "Telling" = some (.ref A.Telling)
  cl_Telling : Cls K A.Telling
  na_Telling_thing : NoAttr K A.Telling "thing"
  na_Telling_field : NoAttr K A.Telling "field"
  na_Telling_value : NoAttr K A.Telling "value"
  mk_Telling : Mk K A.Telling A.f_Telling_init
  c_Clearing : mg "Clearing" = some (.ref A.Clearing)
  cl_Clearing : Cls K A.Clearing
  na_Clearing_thing : NoAttr K A.Clearing "thing"
  na_Clearing_field : NoAttr K A.Clearing "field"
  mk_Clearing : Mk K A.Clearing A.f_Clearing_init
  c_Adding : mg "Adding" = some (.ref A.Adding)
  cl_Adding : Cls K A.Adding
  na_Adding_thing : NoAttr K A.Adding "thing"
  na_Adding_amount : NoAttr K A.Adding "amount"
  mk_Adding : Mk K A.Adding A.f_Adding_init
  c_TakingBack : mg "TakingBack" = some (.ref A.TakingBack)
  cl_TakingBack : Cls K A.TakingBack
  na_TakingBack_deed : NoAttr K A.TakingBack "deed"
  mk_TakingBack : Mk K A.TakingBack A.f_TakingBack_init
  c_DoingAgain : mg "DoingAgain" = some (.ref A.DoingAgain)
  cl_DoingAgain : Cls K A.DoingAgain
  na_DoingAgain_deed : NoAttr K A.DoingAgain "deed"
  mk_DoingAgain : Mk K A.DoingAgain A.f_DoingAgain_init
  c_Deed : mg "Deed" = some (.ref A.Deed)
  cl_Deed : Cls K A.Deed
  na_Deed_number : NoAttr K A.Deed "number"
  na_Deed_desk : NoAttr K A.Deed "desk"
  na_Deed_rank : NoAttr K A.Deed "rank"
  na_Deed_count : NoAttr K A.Deed "count"
  na_Deed_saw : NoAttr K A.Deed "saw"
  na_Deed_act : NoAttr K A.Deed "act"
  mk_Deed : Mk K A.Deed A.f_Deed_init
  c_Desk : mg "Desk" = some (.ref A.Desk)
  cl_Desk : Cls K A.Desk
  na_Desk_greatest : NoAttr K A.Desk "greatest"
  na_Desk_counts : NoAttr K A.Desk "counts"
  na_Desk_sure : NoAttr K A.Desk "sure"
  na_Desk_heard : NoAttr K A.Desk "heard"
  na_Desk_forgotten : NoAttr K A.Desk "forgotten"
  mk_Desk : Mk K A.Desk A.f_Desk_init
  c_Letter : mg "Letter" = some (.ref A.Letter)
  cl_Letter : Cls K A.Letter
  na_Letter_source : NoAttr K A.Letter "source"
  na_Letter_target : NoAttr K A.Letter "target"
  na_Letter_counts : NoAttr K A.Letter "counts"
  na_Letter_greatest : NoAttr K A.Letter "greatest"
  na_Letter_deeds : NoAttr K A.Letter "deeds"
  mk_Letter : Mk K A.Letter A.f_Letter_init
  c_House : mg "House" = some (.ref A.House)
  cl_House : Cls K A.House
  na_House_desks : NoAttr K A.House "desks"
  na_House_deeds : NoAttr K A.House "deeds"
  na_House_letters : NoAttr K A.House "letters"
  na_House_next_thing : NoAttr K A.House "next_thing"
  mk_House : Mk K A.House A.f_House_init
  mt_House_start : Meth K A.House "start" A.f_House_start
  c_Outline : mg "Outline" = some (.ref A.Outline)
  cl_Outline : Cls K A.Outline
  na_Outline_deeds : NoAttr K A.Outline "deeds"
  na_Outline_held : NoAttr K A.Outline "held"
  na_Outline_places : NoAttr K A.Outline "places"
  mk_Outline : Mk K A.Outline A.f_Outline_init
  f_Put_init : Fun K "__init__" "Put.__init__" s_Put_init A.f_Put_init D.d_Put_init
  b_Put_init : Binds K D.d_Put_init ["self", "thing", "under", "at", "side"] []
  f_Telling_init : Fun K "__init__" "Telling.__init__" s_Telling_init A.f_Telling_init D.d_Telling_init
  b_Telling_init : Binds K D.d_Telling_init ["self", "thing", "field", "value"] []
  f_Clearing_init : Fun K "__init__" "Clearing.__init__" s_Clearing_init A.f_Clearing_init D.d_Clearing_init
  b_Clearing_init : Binds K D.d_Clearing_init ["self", "thing", "field"] []
  f_Adding_init : Fun K "__init__" "Adding.__init__" s_Adding_init A.f_Adding_init D.d_Adding_init
  b_Adding_init : Binds K D.d_Adding_init ["self", "thing", "amount"] []
  f_TakingBack_init : Fun K "__init__" "TakingBack.__init__" s_TakingBack_init A.f_TakingBack_init D.d_TakingBack_init
  b_TakingBack_init : Binds K D.d_TakingBack_init ["self", "deed"] []
  f_DoingAgain_init : Fun K "__init__" "DoingAgain.__init__" s_DoingAgain_init A.f_DoingAgain_init D.d_DoingAgain_init
  b_DoingAgain_init : Binds K D.d_DoingAgain_init ["self", "deed"] []
  f_Deed_init : Fun K "__init__" "Deed.__init__" s_Deed_init A.f_Deed_init D.d_Deed_init
  b_Deed_init : Binds K D.d_Deed_init ["self", "number", "desk", "rank", "count", "saw", "act"] []
  m_stamp : mg "stamp" = some (.ref A.f_stamp)
  f_stamp : Fun K "stamp" "stamp" s_stamp A.f_stamp D.d_stamp
  b_stamp : Binds K D.d_stamp ["deed"] []
  m_is_change : mg "is_change" = some (.ref A.f_is_change)
  f_is_change : Fun K "is_change" "is_change" s_is_change A.f_is_change D.d_is_change
  b_is_change : Binds K D.d_is_change ["deed"] []
  m_is_in_reach : mg "is_in_reach" = some (.ref A.f_is_in_reach)
  f_is_in_reach : Fun K "is_in_reach" "is_in_reach" s_is_in_reach A.f_is_in_reach D.d_is_in_reach
  b_is_in_reach : Binds K D.d_is_in_reach ["count", "deed"] []
  m_has_seen : mg "has_seen" = some (.ref A.f_has_seen)
  f_has_seen : Fun K "has_seen" "has_seen" s_has_seen A.f_has_seen D.d_has_seen
  b_has_seen : Binds K D.d_has_seen ["deed", "other"] []
  m_tellings_of : mg "tellings_of" = some (.ref A.f_tellings_of)
  f_tellings_of : Fun K "tellings_of" "tellings_of" s_tellings_of A.f_tellings_of D.d_tellings_of
  b_tellings_of : Binds K D.d_tellings_of ["held", "thing", "field"] []
  m_is_about : mg "is_about" = some (.ref A.f_is_about)
  f_is_about : Fun K "is_about" "is_about" s_is_about A.f_is_about D.d_is_about
  b_is_about : Binds K D.d_is_about ["deed", "thing", "field"] []
  m_is_seen : mg "is_seen" = some (.ref A.f_is_seen)
  f_is_seen : Fun K "is_seen" "is_seen" s_is_seen A.f_is_seen D.d_is_seen
  b_is_seen : Binds K D.d_is_seen ["deeds", "other"] []
  m_amount_of : mg "amount_of" = some (.ref A.f_amount_of)
  f_amount_of : Fun K "amount_of" "amount_of" s_amount_of A.f_amount_of D.d_amount_of
  b_amount_of : Binds K D.d_amount_of ["held", "thing"] []
  m_holding : mg "holding" = some (.ref A.f_holding)
  f_holding : Fun K "holding" "holding" s_holding A.f_holding D.d_holding
  b_holding : Binds K D.d_holding ["deeds"] []
  m_puts_under : mg "puts_under" = some (.ref A.f_puts_under)
  f_puts_under : Fun K "puts_under" "puts_under" s_puts_under A.f_puts_under D.d_puts_under
  b_puts_under : Binds K D.d_puts_under ["deeds", "under"] []
  m_spots_under : mg "spots_under" = some (.ref A.f_spots_under)
  f_spots_under : Fun K "spots_under" "spots_under" s_spots_under A.f_spots_under D.d_spots_under
  b_spots_under : Binds K D.d_spots_under ["deeds", "under"] []
  m_right_behind : mg "right_behind" = some (.ref A.f_right_behind)
  f_right_behind : Fun K "right_behind" "right_behind" s_right_behind A.f_right_behind D.d_right_behind
  b_right_behind : Binds K D.d_right_behind ["deeds", "under", "spot"] []
  m_has_right : mg "has_right" = some (.ref A.f_has_right)
  f_has_right : Fun K "has_right" "has_right" s_has_right A.f_has_right D.d_has_right
  b_has_right : Binds K D.d_has_right ["deeds", "under", "spot"] []
  f_Desk_init : Fun K "__init__" "Desk.__init__" s_Desk_init A.f_Desk_init D.d_Desk_init
  b_Desk_init : Binds K D.d_Desk_init ["self", "desks"] []
  f_Letter_init : Fun K "__init__" "Letter.__init__" s_Letter_init A.f_Letter_init D.d_Letter_init
  b_Letter_init : Binds K D.d_Letter_init ["self", "source", "target", "counts", "greatest", "deeds"] []
  f_House_init : Fun K "__init__" "House.__init__" s_House_init A.f_House_init D.d_House_init
  b_House_init : Binds K D.d_House_init ["self", "desks"] []
  f_House_start : Fun K "start" "House.start" s_House_start A.f_House_start D.d_House_start
  b_House_start : Binds K D.d_House_start ["self", "desks"] []
  m_has_desk : mg "has_desk" = some (.ref A.f_has_desk)
  f_has_desk : Fun K "has_desk" "has_desk" s_has_desk A.f_has_desk D.d_has_desk
  b_has_desk : Binds K D.d_has_desk ["house", "desk"] []
  m_is_full : mg "is_full" = some (.ref A.f_is_full)
  f_is_full : Fun K "is_full" "is_full" s_is_full A.f_is_full D.d_is_full
  b_is_full : Binds K D.d_is_full ["house"] []
  m_had : mg "had" = some (.ref A.f_had)
  f_had : Fun K "had" "had" s_had A.f_had D.d_had
  b_had : Binds K D.d_had ["house", "desk"] []
  m_others_of : mg "others_of" = some (.ref A.f_others_of)
  f_others_of : Fun K "others_of" "others_of" s_others_of A.f_others_of D.d_others_of
  b_others_of : Binds K D.d_others_of ["house", "desk"] []
  m_next_count : mg "next_count" = some (.ref A.f_next_count)
  f_next_count : Fun K "next_count" "next_count" s_next_count A.f_next_count D.d_next_count
  b_next_count : Binds K D.d_next_count ["house", "desk"] []
  m_do_deed : mg "do_deed" = some (.ref A.f_do_deed)
  f_do_deed : Fun K "do_deed" "do_deed" s_do_deed A.f_do_deed D.d_do_deed
  b_do_deed : Binds K D.d_do_deed ["house", "desk", "act"] []
  m_places_of : mg "places_of" = some (.ref A.f_places_of)
  f_places_of : Fun K "places_of" "places_of" s_places_of A.f_places_of D.d_places_of
  b_places_of : Binds K D.d_places_of ["held"] []
  m_can_be_put : mg "can_be_put" = some (.ref A.f_can_be_put)
  f_can_be_put : Fun K "can_be_put" "can_be_put" s_can_be_put A.f_can_be_put D.d_can_be_put
  b_can_be_put : Binds K D.d_can_be_put ["places", "thing", "under"] []
  m_is_there : mg "is_there" = some (.ref A.f_is_there)
  f_is_there : Fun K "is_there" "is_there" s_is_there A.f_is_there D.d_is_there
  b_is_there : Binds K D.d_is_there ["places", "thing"] []
  m_line_up : mg "line_up" = some (.ref A.f_line_up)
  f_line_up : Fun K "line_up" "line_up" s_line_up A.f_line_up D.d_line_up
  b_line_up : Binds K D.d_line_up ["places", "thing"] []
  f_Outline_init : Fun K "__init__" "Outline.__init__" s_Outline_init A.f_Outline_init D.d_Outline_init
  b_Outline_init : Binds K D.d_Outline_init ["self", "deeds"] []
  m_outline_of : mg "outline_of" = some (.ref A.f_outline_of)
  f_outline_of : Fun K "outline_of" "outline_of" s_outline_of A.f_outline_of D.d_outline_of
  b_outline_of : Binds K D.d_outline_of ["house", "desk"] []
  m_refusal_about : mg "refusal_about" = some (.ref A.f_refusal_about)
  f_refusal_about : Fun K "refusal_about" "refusal_about" s_refusal_about A.f_refusal_about D.d_refusal_about
  b_refusal_about : Binds K D.d_refusal_about ["house", "desk", "thing"] []
  m_row_of : mg "row_of" = some (.ref A.f_row_of)
  f_row_of : Fun K "row_of" "row_of" s_row_of A.f_row_of D.d_row_of
  b_row_of : Binds K D.d_row_of ["outline", "under"] []
  m_is_by : mg "is_by" = some (.ref A.f_is_by)
  f_is_by : Fun K "is_by" "is_by" s_is_by A.f_is_by D.d_is_by
  b_is_by : Binds K D.d_is_by ["places", "put"] []
  m_things_in_row : mg "things_in_row" = some (.ref A.f_things_in_row)
  f_things_in_row : Fun K "things_in_row" "things_in_row" s_things_in_row A.f_things_in_row D.d_things_in_row
  b_things_in_row : Binds K D.d_things_in_row ["outline", "under"] []
  m_within : mg "within" = some (.ref A.f_within)
  f_within : Fun K "within" "within" s_within A.f_within D.d_within
  b_within : Binds K D.d_within ["outline", "thing"] []
  m_ask_tree : mg "ask_tree" = some (.ref A.f_ask_tree)
  f_ask_tree : Fun K "ask_tree" "ask_tree" s_ask_tree A.f_ask_tree D.d_ask_tree
  b_ask_tree : Binds K D.d_ask_tree ["house", "desk", "thing"] []
  m_ask_row : mg "ask_row" = some (.ref A.f_ask_row)
  f_ask_row : Fun K "ask_row" "ask_row" s_ask_row A.f_ask_row D.d_ask_row
  b_ask_row : Binds K D.d_ask_row ["house", "desk", "thing"] []
  m_ask_line : mg "ask_line" = some (.ref A.f_ask_line)
  f_ask_line : Fun K "ask_line" "ask_line" s_ask_line A.f_ask_line D.d_ask_line
  b_ask_line : Binds K D.d_ask_line ["house", "desk", "thing"] []
  m_ask_values : mg "ask_values" = some (.ref A.f_ask_values)
  f_ask_values : Fun K "ask_values" "ask_values" s_ask_values A.f_ask_values D.d_ask_values
  b_ask_values : Binds K D.d_ask_values ["house", "desk", "thing", "field"] []
  m_ask_amounts : mg "ask_amounts" = some (.ref A.f_ask_amounts)
  f_ask_amounts : Fun K "ask_amounts" "ask_amounts" s_ask_amounts A.f_ask_amounts D.d_ask_amounts
  b_ask_amounts : Binds K D.d_ask_amounts ["house", "desk", "thing"] []
  m_ask_find : mg "ask_find" = some (.ref A.f_ask_find)
  f_ask_find : Fun K "ask_find" "ask_find" s_ask_find A.f_ask_find D.d_ask_find
  b_ask_find : Binds K D.d_ask_find ["house", "desk", "field", "value"] []
  m_has_value : mg "has_value" = some (.ref A.f_has_value)
  f_has_value : Fun K "has_value" "has_value" s_has_value A.f_has_value D.d_has_value
  b_has_value : Binds K D.d_has_value ["held", "thing", "field", "value"] []
  m_ask_same : mg "ask_same" = some (.ref A.f_ask_same)
  f_ask_same : Fun K "ask_same" "ask_same" s_ask_same A.f_ask_same D.d_ask_same
  b_ask_same : Binds K D.d_ask_same ["house", "desk", "other"] []
  m_counted : mg "counted" = some (.ref A.f_counted)
  f_counted : Fun K "counted" "counted" s_counted A.f_counted D.d_counted
  b_counted : Binds K D.d_counted ["numbers"] []
  m_counted_pairs : mg "counted_pairs" = some (.ref A.f_counted_pairs)
  f_counted_pairs : Fun K "counted_pairs" "counted_pairs" s_counted_pairs A.f_counted_pairs D.d_counted_pairs
  b_counted_pairs : Binds K D.d_counted_pairs ["pairs"] []
  m_begin : mg "begin" = some (.ref A.f_begin)
  f_begin : Fun K "begin" "begin" s_begin A.f_begin D.d_begin
  b_begin : Binds K D.d_begin ["house", "desks"] []
  m_make : mg "make" = some (.ref A.f_make)
  f_make : Fun K "make" "make" s_make A.f_make D.d_make
  b_make : Binds K D.d_make ["house", "desk", "under", "i"] []
  m_move : mg "move" = some (.ref A.f_move)
  f_move : Fun K "move" "move" s_move A.f_move D.d_move
  b_move : Binds K D.d_move ["house", "desk", "thing", "under", "i"] []
  m_can_move : mg "can_move" = some (.ref A.f_can_move)
  f_can_move : Fun K "can_move" "can_move" s_can_move A.f_can_move D.d_can_move
  b_can_move : Binds K D.d_can_move ["places", "thing"] []
  m_put_behind : mg "put_behind" = some (.ref A.f_put_behind)
  f_put_behind : Fun K "put_behind" "put_behind" s_put_behind A.f_put_behind D.d_put_behind
  b_put_behind : Binds K D.d_put_behind ["outline", "thing", "under", "row", "i"] []
  m_tell : mg "tell" = some (.ref A.f_tell)
  f_tell : Fun K "tell" "tell" s_tell A.f_tell D.d_tell
  b_tell : Binds K D.d_tell ["house", "desk", "thing", "field", "value"] []
  m_clear_field : mg "clear_field" = some (.ref A.f_clear_field)
  f_clear_field : Fun K "clear_field" "clear_field" s_clear_field A.f_clear_field D.d_clear_field
  b_clear_field : Binds K D.d_clear_field ["house", "desk", "thing", "field"] []
  m_add_amount : mg "add_amount" = some (.ref A.f_add_amount)
  f_add_amount : Fun K "add_amount" "add_amount" s_add_amount A.f_add_amount D.d_add_amount
  b_add_amount : Binds K D.d_add_amount ["house", "desk", "thing", "amount"] []
  m_less_amount : mg "less_amount" = some (.ref A.f_less_amount)
  f_less_amount : Fun K "less_amount" "less_amount" s_less_amount A.f_less_amount D.d_less_amount
  b_less_amount : Binds K D.d_less_amount ["house", "desk", "thing", "amount"] []
  m_do_to_thing : mg "do_to_thing" = some (.ref A.f_do_to_thing)
  f_do_to_thing : Fun K "do_to_thing" "do_to_thing" s_do_to_thing A.f_do_to_thing D.d_do_to_thing
  b_do_to_thing : Binds K D.d_do_to_thing ["house", "desk", "is_wrong", "act"] []
  m_refusal_to_thing : mg "refusal_to_thing" = some (.ref A.f_refusal_to_thing)
  f_refusal_to_thing : Fun K "refusal_to_thing" "refusal_to_thing" s_refusal_to_thing A.f_refusal_to_thing D.d_refusal_to_thing
  b_refusal_to_thing : Binds K D.d_refusal_to_thing ["house", "desk", "is_wrong", "thing"] []
  m_forget : mg "forget" = some (.ref A.f_forget)
  f_forget : Fun K "forget" "forget" s_forget A.f_forget D.d_forget
  b_forget : Binds K D.d_forget ["house", "desk"] []
  m_ask_kept : mg "ask_kept" = some (.ref A.f_ask_kept)
  f_ask_kept : Fun K "ask_kept" "ask_kept" s_ask_kept A.f_ask_kept D.d_ask_kept
  b_ask_kept : Binds K D.d_ask_kept ["house", "desk"] []
  m_kept_deeds : mg "kept_deeds" = some (.ref A.f_kept_deeds)
  f_kept_deeds : Fun K "kept_deeds" "kept_deeds" s_kept_deeds A.f_kept_deeds D.d_kept_deeds
  b_kept_deeds : Binds K D.d_kept_deeds ["house", "desk"] []
  m_ripe_deeds : mg "ripe_deeds" = some (.ref A.f_ripe_deeds)
  f_ripe_deeds : Fun K "ripe_deeds" "ripe_deeds" s_ripe_deeds A.f_ripe_deeds D.d_ripe_deeds
  b_ripe_deeds : Binds K D.d_ripe_deeds ["house", "desk"] []
  m_settled_count : mg "settled_count" = some (.ref A.f_settled_count)
  f_settled_count : Fun K "settled_count" "settled_count" s_settled_count A.f_settled_count D.d_settled_count
  b_settled_count : Binds K D.d_settled_count ["house", "desk"] []
  m_is_sure_of_all : mg "is_sure_of_all" = some (.ref A.f_is_sure_of_all)
  f_is_sure_of_all : Fun K "is_sure_of_all" "is_sure_of_all" s_is_sure_of_all A.f_is_sure_of_all D.d_is_sure_of_all
  b_is_sure_of_all : Binds K D.d_is_sure_of_all ["house", "desk", "deed"] []
  m_send : mg "send" = some (.ref A.f_send)
  f_send : Fun K "send" "send" s_send A.f_send D.d_send
  b_send : Binds K D.d_send ["house", "source", "target"] []
  m_written : mg "written" = some (.ref A.f_written)
  f_written : Fun K "written" "written" s_written A.f_written D.d_written
  b_written : Binds K D.d_written ["house", "source", "target"] []
  m_unsure : mg "unsure" = some (.ref A.f_unsure)
  f_unsure : Fun K "unsure" "unsure" s_unsure A.f_unsure D.d_unsure
  b_unsure : Binds K D.d_unsure ["house", "source", "target"] []
  m_comes : mg "comes" = some (.ref A.f_comes)
  f_comes : Fun K "comes" "comes" s_comes A.f_comes D.d_comes
  b_comes : Binds K D.d_comes ["house", "number"] []
  m_hear : mg "hear" = some (.ref A.f_hear)
  f_hear : Fun K "hear" "hear" s_hear A.f_hear D.d_hear
  b_hear : Binds K D.d_hear ["desk", "letter"] []
  m_greater_of_each : mg "greater_of_each" = some (.ref A.f_greater_of_each)
  f_greater_of_each : Fun K "greater_of_each" "greater_of_each" s_greater_of_each A.f_greater_of_each D.d_greater_of_each
  b_greater_of_each : Binds K D.d_greater_of_each ["counts", "others"] []
  m_back : mg "back" = some (.ref A.f_back)
  f_back : Fun K "back" "back" s_back A.f_back D.d_back
  b_back : Binds K D.d_back ["house", "desk", "deed"] []
  m_undo : mg "undo" = some (.ref A.f_undo)
  f_undo : Fun K "undo" "undo" s_undo A.f_undo D.d_undo
  b_undo : Binds K D.d_undo ["house", "desk"] []
  m_redo : mg "redo" = some (.ref A.f_redo)
  f_redo : Fun K "redo" "redo" s_redo A.f_redo D.d_redo
  b_redo : Binds K D.d_redo ["house", "desk"] []
  m_taken_last : mg "taken_last" = some (.ref A.f_taken_last)
  f_taken_last : Fun K "taken_last" "taken_last" s_taken_last A.f_taken_last D.d_taken_last
  b_taken_last : Binds K D.d_taken_last ["house", "desk"] []
  m_is_own_change : mg "is_own_change" = some (.ref A.f_is_own_change)
  f_is_own_change : Fun K "is_own_change" "is_own_change" s_is_own_change A.f_is_own_change D.d_is_own_change
  b_is_own_change : Binds K D.d_is_own_change ["deed", "desk"] []
  m_numbers_held : mg "numbers_held" = some (.ref A.f_numbers_held)
  f_numbers_held : Fun K "numbers_held" "numbers_held" s_numbers_held A.f_numbers_held D.d_numbers_held
  b_numbers_held : Binds K D.d_numbers_held ["house", "desk"] []
  m_is_too_late : mg "is_too_late" = some (.ref A.f_is_too_late)
  f_is_too_late : Fun K "is_too_late" "is_too_late" s_is_too_late A.f_is_too_late D.d_is_too_late
  b_is_too_late : Binds K D.d_is_too_late ["house", "desk", "deed"] []
  m_answers : mg "answers" = some (.ref A.f_answers)
  f_answers : Fun K "answers" "answers" s_answers A.f_answers D.d_answers
  b_answers : Binds K D.d_answers ["calls"] []
  m_answers_of : mg "answers_of" = some (.ref A.f_answers_of)
  f_answers_of : Fun K "answers_of" "answers_of" s_answers_of A.f_answers_of D.d_answers_of
  b_answers_of : Binds K D.d_answers_of ["house", "calls"] []
  m_answer_of : mg "answer_of" = some (.ref A.f_answer_of)
  f_answer_of : Fun K "answer_of" "answer_of" s_answer_of A.f_answer_of D.d_answer_of
  b_answer_of : Binds K D.d_answer_of ["house", "call", "numbers"] []
  m_answer_of_change : mg "answer_of_change" = some (.ref A.f_answer_of_change)
  f_answer_of_change : Fun K "answer_of_change" "answer_of_change" s_answer_of_change A.f_answer_of_change D.d_answer_of_change
  b_answer_of_change : Binds K D.d_answer_of_change ["house", "call", "numbers"] []
  m_answer_of_taking : mg "answer_of_taking" = some (.ref A.f_answer_of_taking)
  f_answer_of_taking : Fun K "answer_of_taking" "answer_of_taking" s_answer_of_taking A.f_answer_of_taking D.d_answer_of_taking
  b_answer_of_taking : Binds K D.d_answer_of_taking ["house", "call", "numbers"] []
  m_answer_of_keeping : mg "answer_of_keeping" = some (.ref A.f_answer_of_keeping)
  f_answer_of_keeping : Fun K "answer_of_keeping" "answer_of_keeping" s_answer_of_keeping A.f_answer_of_keeping D.d_answer_of_keeping
  b_answer_of_keeping : Binds K D.d_answer_of_keeping ["house", "call", "numbers"] []
  m_answer_of_question : mg "answer_of_question" = some (.ref A.f_answer_of_question)
  f_answer_of_question : Fun K "answer_of_question" "answer_of_question" s_answer_of_question A.f_answer_of_question D.d_answer_of_question
  b_answer_of_question : Binds K D.d_answer_of_question ["house", "call", "numbers"] []
  ty_Put : ∀ (H : Hp) (a dx : Addr) (fs : List (Str × V)), H a = some (.ins A.Put dx fs) → TyX K H (.ref a) (.ref A.Put)
  is_Put_Adding : PySem.W.kitOne K (.ref A.Put) (.ref A.Adding) = some false
  is_Put_Put : PySem.W.kitOne K (.ref A.Put) (.ref A.Put) = some true
  is_Put_TakingBack : PySem.W.kitOne K (.ref A.Put) (.ref A.TakingBack) = some false
  is_Put_TakingBack_DoingAgain : PySem.W.kitAny K (.ref A.Put) [.ref A.TakingBack, .ref A.DoingAgain] = some false
  is_Put_Telling : PySem.W.kitOne K (.ref A.Put) (.ref A.Telling) = some false
  is_Put_Telling_Clearing : PySem.W.kitAny K (.ref A.Put) [.ref A.Telling, .ref A.Clearing] = some false
  ty_Telling : ∀ (H : Hp) (a dx : Addr) (fs : List (Str × V)), H a = some (.ins A.Telling dx fs) → TyX K H (.ref a) (.ref A.Telling)
  is_Telling_Adding : PySem.W.kitOne K (.ref A.Telling) (.ref A.Adding) = some false
  is_Telling_Put : PySem.W.kitOne K (.ref A.Telling) (.ref A.Put) = some false
  is_Telling_TakingBack : PySem.W.kitOne K (.ref A.Telling) (.ref A.TakingBack) = some false
  is_Telling_TakingBack_DoingAgain : PySem.W.kitAny K (.ref A.Telling) [.ref A.TakingBack, .ref A.DoingAgain] = some false
  is_Telling_Telling : PySem.W.kitOne K (.ref A.Telling) (.ref A.Telling) = some true
  is_Telling_Telling_Clearing : PySem.W.kitAny K (.ref A.Telling) [.ref A.Telling, .ref A.Clearing] = some true
  ty_Clearing : ∀ (H : Hp) (a dx : Addr) (fs : List (Str × V)), H a = some (.ins A.Clearing dx fs) → TyX K H (.ref a) (.ref A.Clearing)
  is_Clearing_Adding : PySem.W.kitOne K (.ref A.Clearing) (.ref A.Adding) = some false
  is_Clearing_Put : PySem.W.kitOne K (.ref A.Clearing) (.ref A.Put) = some false
  is_Clearing_TakingBack : PySem.W.kitOne K (.ref A.Clearing) (.ref A.TakingBack) = some false
  is_Clearing_TakingBack_DoingAgain : PySem.W.kitAny K (.ref A.Clearing) [.ref A.TakingBack, .ref A.DoingAgain] = some false
  is_Clearing_Telling : PySem.W.kitOne K (.ref A.Clearing) (.ref A.Telling) = some false
  is_Clearing_Telling_Clearing : PySem.W.kitAny K (.ref A.Clearing) [.ref A.Telling, .ref A.Clearing] = some true
  ty_Adding : ∀ (H : Hp) (a dx : Addr) (fs : List (Str × V)), H a = some (.ins A.Adding dx fs) → TyX K H (.ref a) (.ref A.Adding)
  is_Adding_Adding : PySem.W.kitOne K (.ref A.Adding) (.ref A.Adding) = some true
  is_Adding_Put : PySem.W.kitOne K (.ref A.Adding) (.ref A.Put) = some false
  is_Adding_TakingBack : PySem.W.kitOne K (.ref A.Adding) (.ref A.TakingBack) = some false
  is_Adding_TakingBack_DoingAgain : PySem.W.kitAny K (.ref A.Adding) [.ref A.TakingBack, .ref A.DoingAgain] = some false
  is_Adding_Telling : PySem.W.kitOne K (.ref A.Adding) (.ref A.Telling) = some false
  is_Adding_Telling_Clearing : PySem.W.kitAny K (.ref A.Adding) [.ref A.Telling, .ref A.Clearing] = some false
  ty_TakingBack : ∀ (H : Hp) (a dx : Addr) (fs : List (Str × V)), H a = some (.ins A.TakingBack dx fs) → TyX K H (.ref a) (.ref A.TakingBack)
  is_TakingBack_Adding : PySem.W.kitOne K (.ref A.TakingBack) (.ref A.Adding) = some false
  is_TakingBack_Put : PySem.W.kitOne K (.ref A.TakingBack) (.ref A.Put) = some false
  is_TakingBack_TakingBack : PySem.W.kitOne K (.ref A.TakingBack) (.ref A.TakingBack) = some true
  is_TakingBack_TakingBack_DoingAgain : PySem.W.kitAny K (.ref A.TakingBack) [.ref A.TakingBack, .ref A.DoingAgain] = some true
  is_TakingBack_Telling : PySem.W.kitOne K (.ref A.TakingBack) (.ref A.Telling) = some false
  is_TakingBack_Telling_Clearing : PySem.W.kitAny K (.ref A.TakingBack) [.ref A.Telling, .ref A.Clearing] = some false
  ty_DoingAgain : ∀ (H : Hp) (a dx : Addr) (fs : List (Str × V)), H a = some (.ins A.DoingAgain dx fs) → TyX K H (.ref a) (.ref A.DoingAgain)
  is_DoingAgain_Adding : PySem.W.kitOne K (.ref A.DoingAgain) (.ref A.Adding) = some false
  is_DoingAgain_Put : PySem.W.kitOne K (.ref A.DoingAgain) (.ref A.Put) = some false
  is_DoingAgain_TakingBack : PySem.W.kitOne K (.ref A.DoingAgain) (.ref A.TakingBack) = some false
  is_DoingAgain_TakingBack_DoingAgain : PySem.W.kitAny K (.ref A.DoingAgain) [.ref A.TakingBack, .ref A.DoingAgain] = some true
  is_DoingAgain_Telling : PySem.W.kitOne K (.ref A.DoingAgain) (.ref A.Telling) = some false
  is_DoingAgain_Telling_Clearing : PySem.W.kitAny K (.ref A.DoingAgain) [.ref A.Telling, .ref A.Clearing] = some false
theorem lk_here {k : Str} {v : V} {r : List (Str × V)} : List.lookup k ((k, v) :: r) = some v := by
  have e : (k == k) = true := beq_self_eq_true k
  simp only [List.lookup, e]
theorem lk_past {k g : Str} {v : V} {r : List (Str × V)} (h : (k == g) = false) : List.lookup k ((g, v) :: r) = List.lookup k r := by
  simp only [List.lookup, h]
theorem put_here {f : Str} {v x : V} {r : List (Str × V)} : putF f v ((f, x) :: r) = (f, v) :: r := if_pos rfl
theorem put_past {f g : Str} {v x : V} {r : List (Str × V)} (h : ¬ g = f) : putF f v ((g, x) :: r) = (g, x) :: putF f v r := if_neg h
section
variable {P : Program} {w : World} {K : PySem.W.Frag} {mg : Str → Option Value} {base : Heap} {A : Ad} {D : Fd}
def fs_Put (v_thing v_under v_at v_side : V) : List (Str × V) := [("thing", v_thing), ("under", v_under), ("at", v_at), ("side", v_side)]
def obPut (A : Ad) (H : Hp) (a : Addr) (v_thing v_under v_at v_side : V) : Prop := ∃ dx, H a = some (.ins A.Put dx (fs_Put v_thing v_under v_at v_side))
theorem lk_Put_thing (v_thing v_under v_at v_side : V) : (fs_Put v_thing v_under v_at v_side).lookup ("thing" : Str) = some v_thing := lk_here
theorem obPut.thing (T : Txt K mg A D) {H : Hp} {a : Addr} {v_thing v_under v_at v_side : V} (h : obPut A H a v_thing v_under v_at v_side) {R : V → Prop} (q : R v_thing) : ∃ a' C dx fs v, V.ref a = .ref a' ∧ H a' = some (.ins C dx fs) ∧ Cls K C ∧ NoAttr K C "thing" ∧ fs.lookup ("thing" : Str) = some v ∧ R v :=
  let ⟨dx, e⟩ := h
  ⟨a, A.Put, dx, _, _, rfl, e, T.cl_Put, T.na_Put_thing, lk_Put_thing .., q⟩
theorem pt_Put_thing (v_thing v_under v_at v_side y : V) : putF ("thing" : Str) y (fs_Put v_thing v_under v_at v_side) = fs_Put y v_under v_at v_side := put_here
theorem obPut.set_thing (T : Txt K mg A D) {H : Hp} {a : Addr} {v_thing v_under v_at v_side : V} (h : obPut A H a v_thing v_under v_at v_side) (y : V) {R : Hp → Prop} (q : ∀ H', (∀ b, b ≠ a → H' b = H b) → obPut A H' a y v_under v_at v_side → R H') :
    ∃ a' C dx fs, V.ref a = .ref a' ∧ H a' = some (.ins C dx fs) ∧ Cls K C ∧ NoAttr K C "thing" ∧ fs.length < 1000 ∧ R (upd H a' (.ins C dx (putF "thing" y fs))) :=
  let ⟨dx, e⟩ := h
  ⟨a, A.Put, dx, _, rfl, e, T.cl_Put, T.na_Put_thing, (by show 4 < 1000; decide), q _ (fun b hb => upd_ne hb) ⟨dx, by rw [upd_same, pt_Put_thing]⟩⟩
theorem lk_Put_under (v_thing v_under v_at v_side : V) : (fs_Put v_thing v_under v_at v_side).lookup ("under" : Str) = some v_under := ((lk_past (by decide +kernel)).trans lk_here)
theorem obPut.under (T : Txt K mg A D) {H : Hp} {a : Addr} {v_thing v_under v_at v_side : V} (h : obPut A H a v_thing v_under v_at v_side) {R : V → Prop} (q : R v_under) : ∃ a' C dx fs v, V.ref a = .ref a' ∧ H a' = some (.ins C dx fs) ∧ Cls K C ∧ NoAttr K C "under" ∧ fs.lookup ("under" : Str) = some v ∧ R v :=
  let ⟨dx, e⟩ := h
  ⟨a, A.Put, dx, _, _, rfl, e, T.cl_Put, T.na_Put_under, lk_Put_under .., q⟩
theorem pt_Put_under (v_thing v_under v_at v_side y : V) : putF ("under" : Str) y (fs_Put v_thing v_under v_at v_side) = fs_Put v_thing y v_at v_side := ((put_past (by decide +kernel)).trans (congrArg _ put_here))
theorem obPut.set_under (T : Txt K mg A D) {H : Hp} {a : Addr} {v_thing v_under v_at v_side : V} (h : obPut A H a v_thing v_under v_at v_side) (y : V) {R : Hp → Prop} (q : ∀ H', (∀ b, b ≠ a → H' b = H b) → obPut A H' a v_thing y v_at v_side → R H') :
    ∃ a' C dx fs, V.ref a = .ref a' ∧ H a' = some (.ins C dx fs) ∧ Cls K C ∧ NoAttr K C "under" ∧ fs.length < 1000 ∧ R (upd H a' (.ins C dx (putF "under" y fs))) :=
  let ⟨dx, e⟩ := h
  ⟨a, A.Put, dx, _, rfl, e, T.cl_Put, T.na_Put_under, (by show 4 < 1000; decide), q _ (fun b hb => upd_ne hb) ⟨dx, by rw [upd_same, pt_Put_under]⟩⟩
theorem lk_Put_at (v_thing v_under v_at v_side : V) : (fs_Put v_thing v_under v_at v_side).lookup ("at" : Str) = some v_at := ((lk_past (by decide +kernel)).trans ((lk_past (by decide +kernel)).trans lk_here))
theorem obPut.at (T : Txt K mg A D) {H : Hp} {a : Addr} {v_thing v_under v_at v_side : V} (h : obPut A H a v_thing v_under v_at v_side) {R : V → Prop} (q : R v_at) : ∃ a' C dx fs v, V.ref a = .ref a' ∧ H a' = some (.ins C dx fs) ∧ Cls K C ∧ NoAttr K C "at" ∧ fs.lookup ("at" : Str) = some v ∧ R v :=
  let ⟨dx, e⟩ := h
  ⟨a, A.Put, dx, _, _, rfl, e, T.cl_Put, T.na_Put_at, lk_Put_at .., q⟩
theorem pt_Put_at (v_thing v_under v_at v_side y : V) : putF ("at" : Str) y (fs_Put v_thing v_under v_at v_side) = fs_Put v_thing v_under y v_side := ((put_past (by decide +kernel)).trans (congrArg _ ((put_past (by decide +kernel)).trans (congrArg _ put_here))))
theorem obPut.set_at (T : Txt K mg A D) {H : Hp} {a : Addr} {v_thing v_under v_at v_side : V} (h : obPut A H a v_thing v_under v_at v_side) (y : V) {R : Hp → Prop} (q : ∀ H', (∀ b, b ≠ a → H' b = H b) → obPut A H' a v_thing v_under y v_side → R H') :
    ∃ a' C dx fs, V.ref a = .ref a' ∧ H a' = some (.ins C dx fs) ∧ Cls K C ∧ NoAttr K C "at" ∧ fs.length < 1000 ∧ R (upd H a' (.ins C dx (putF "at" y fs))) :=
  let ⟨dx, e⟩ := h
  ⟨a, A.Put, dx, _, rfl, e, T.cl_Put, T.na_Put_at, (by show 4 < 1000; decide), q _ (fun b hb => upd_ne hb) ⟨dx, by rw [upd_same, pt_Put_at]⟩⟩
theorem lk_Put_side (v_thing v_under v_at v_side : V) : (fs_Put v_thing v_under v_at v_side).lookup ("side" : Str) = some v_side := ((lk_past (by decide +kernel)).trans ((lk_past (by decide +kernel)).trans ((lk_past (by decide +kernel)).trans lk_here)))
theorem obPut.side (T : Txt K mg A D) {H : Hp} {a : Addr} {v_thing v_under v_at v_side : V} (h : obPut A H a v_thing v_under v_at v_side) {R : V → Prop} (q : R v_side) : ∃ a' C dx fs v, V.ref a = .ref a' ∧ H a' = some (.ins C dx fs) ∧ Cls K C ∧ NoAttr K C "side" ∧ fs.lookup ("side" : Str) = some v ∧ R v :=
  let ⟨dx, e⟩ := h
  ⟨a, A.Put, dx, _, _, rfl, e, T.cl_Put, T.na_Put_side, lk_Put_side .., q⟩
theorem pt_Put_side (v_thing v_under v_at v_side y : V) : putF ("side" : Str) y (fs_Put v_thing v_under v_at v_side) = fs_Put v_thing v_under v_at y := ((put_past (by decide +kernel)).trans (congrArg _ ((put_past (by decide +kernel)).trans (congrArg _ ((put_past (by decide +kernel)).trans (congrArg _ put_here))))))
theorem obPut.set_side (T : Txt K mg A D) {H : Hp} {a : Addr} {v_thing v_under v_at v_side : V} (h : obPut A H a v_thing v_under v_at v_side) (y : V) {R : Hp → Prop} (q : ∀ H', (∀ b, b ≠ a → H' b = H b) → obPut A H' a v_thing v_under v_at y → R H') :
    ∃ a' C dx fs, V.ref a = .ref a' ∧ H a' = some (.ins C dx fs) ∧ Cls K C ∧ NoAttr K C "side" ∧ fs.length < 1000 ∧ R (upd H a' (.ins C dx (putF "side" y fs))) :=
  let ⟨dx, e⟩ := h
  ⟨a, A.Put, dx, _, rfl, e, T.cl_Put, T.na_Put_side, (by show 4 < 1000; decide), q _ (fun b hb => upd_ne hb) ⟨dx, by rw [upd_same, pt_Put_side]⟩⟩
theorem obPut.same {H H' : Hp} {a : Addr} {v_thing v_under v_at v_side : V} (h : obPut A H a v_thing v_under v_at v_side) (s : Same H H') : obPut A H' a v_thing v_under v_at v_side := let ⟨dx, e⟩ := h; ⟨dx, s _ _ e⟩
theorem obPut.other {H H' : Hp} {a b : Addr} {v_thing v_under v_at v_side : V} (h : obPut A H a v_thing v_under v_at v_side) (ne : a ≠ b) (s : ∀ c, c ≠ b → H' c = H c) : obPut A H' a v_thing v_under v_at v_side := let ⟨dx, e⟩ := h; ⟨dx, by rw [s _ ne]; exact e⟩
def sp_Put_init (A : Ad) : Sp := fun vs H Q _ => ∃ (p dx : Addr) (v_thing v_under v_at v_side : V), vs = [.ref p, v_thing, v_under, v_at, v_side] ∧ H p = some (.ins A.Put dx []) ∧ ∀ H', (∀ b, b ≠ p → H' b = H b) → obPut A H' p v_thing v_under v_at v_side → Q .non H'
theorem ok_Put_init (T : Txt K mg A D) : FnOk P w K mg base CX0 1 A.f_Put_init D.d_Put_init ["self", "thing", "under", "at", "side"] (sp_Put_init A) := by
  refine T.f_Put_init.ok sc_Put_init (fun vs H Q E h => ?_) (fun cdv ar outer s H vs Q E hr h => ⟨_, (pss_cons (ps_fld (pv 0) (pv 1) (by rfl))
    (pss_cons (ps_fld (pv 0) (pv 2) (by rfl))
    (pss_cons (ps_fld (pv 0) (pv 3) (by rfl))
    (pss_one (ps_fld (pv 0) (pv 4) (by rfl)))))), ?_⟩)
  · obtain ⟨p, dx, _, _, _, _, rfl, _⟩ := h
    rfl
  · obtain ⟨p, dx, v_thing, v_under, v_at, v_side, rfl, hp, k⟩ := h
    refine ⟨_, rfl, _, rfl, p, A.Put, dx, _, rfl, hp, T.cl_Put, T.na_Put_thing, (by show 0 < 1000; decide), ?_⟩
    refine ⟨_, rfl, _, rfl, p, A.Put, dx, _, rfl, upd_same, T.cl_Put, T.na_Put_under, (by show 1 < 1000; decide), ?_⟩
    refine ⟨_, rfl, _, rfl, p, A.Put, dx, _, rfl, upd_same, T.cl_Put, T.na_Put_at, (by show 2 < 1000; decide), ?_⟩
    refine ⟨_, rfl, _, rfl, p, A.Put, dx, _, rfl, upd_same, T.cl_Put, T.na_Put_side, (by show 3 < 1000; decide), ?_⟩
    refine k _ (fun b hb => ?_) ⟨dx, ?_⟩
    · simp only [upd_ne hb]
    · rw [upd_same]
      refine congrArg (fun q => some (HO.ins A.Put dx q)) ?_
      first | rfl | (unfold fs_Put; simp [putF]; done)
theorem mk_Put {A : Ad} {H : Hp} {v_thing v_under v_at v_side : V} {R : Addr → Hp → Prop} {E : XK} (q : ∀ x H', H x = none → Same H H' → obPut A H' x v_thing v_under v_at v_side → R x H') : ∀ x dx, H x = none → H dx = none → dx ≠ x → sp_Put_init A (.ref x :: ([v_thing, v_under, v_at, v_side] ++ [])) (upd (upd H dx (.own x)) x (.ins A.Put dx [])) (fun v H2 => v = .non ∧ R x H2) E := by
  intro x dx nx nd ne
  refine ⟨x, dx, _, _, _, _, rfl, upd_same, fun H' k e => ⟨rfl, q x H' nx (fun b o hb => ?_) e⟩⟩
  rw [k b (ne_of_none hb nx), upd_ne (ne_of_none hb nx), upd_ne (ne_of_none hb nd)]
  exact hb
def fs_Telling (v_thing v_field v_value : V) : List (Str × V) := [("thing", v_thing), ("field", v_field), ("value", v_value)]
def obTelling (A : Ad) (H : Hp) (a : Addr) (v_thing v_field v_value : V) : Prop := ∃ dx, H a = some (.ins A.Telling dx (fs_Telling v_thing v_field v_value))
theorem lk_Telling_thing (v_thing v_field v_value : V) : (fs_Telling v_thing v_field v_value).lookup ("thing" : Str) = some v_thing := lk_here
theorem obTelling.thing (T : Txt K mg A D) {H : Hp} {a : Addr} {v_thing v_field v_value : V} (h : obTelling A H a v_thing v_field v_value) {R : V → Prop} (q : R v_thing) : ∃ a' C dx fs v, V.ref a = .ref a' ∧ H a' = some (.ins C dx fs) ∧ Cls K C ∧ NoAttr K C "thing" ∧ fs.lookup ("thing" : Str) = some v ∧ R v :=
  let ⟨dx, e⟩ := h
  ⟨a, A.Telling, dx, _, _, rfl, e, T.cl_Telling, T.na_Telling_thing, lk_Telling_thing .., q⟩
theorem pt_Telling_thing (v_thing v_field v_value y : V) : putF ("thing" : Str) y (fs_Telling v_thing v_field v_value) = fs_Telling y v_field v_value := put_here
theorem obTelling.set_thing (T : Txt K mg A D) {H : Hp} {a : Addr} {v_thing v_field v_value : V} (h : obTelling A H a v_thing v_field v_value) (y : V) {R : Hp → Prop} (q : ∀ H', (∀ b, b ≠ a → H' b = H b) → obTelling A H' a y v_field v_value → R H') :
    ∃ a' C dx fs, V.ref a = .ref a' ∧ H a' = some (.ins C dx fs) ∧ Cls K C ∧ NoAttr K C "thing" ∧ fs.length < 1000 ∧ R (upd H a' (.ins C dx (putF "thing" y fs))) :=
  let ⟨dx, e⟩ := h
  ⟨a, A.Telling, dx, _, rfl, e, T.cl_Telling, T.na_Telling_thing, (by show 3 < 1000; decide), q _ (fun b hb => upd_ne hb) ⟨dx, by rw [upd_same, pt_Telling_thing]⟩⟩
theorem lk_Telling_field (v_thing v_field v_value : V) : (fs_Telling v_thing v_field v_value).lookup ("field" : Str) = some v_field := ((lk_past (by decide +kernel)).trans lk_here)
theorem obTelling.field (T : Txt K mg A D) {H : Hp} {a : Addr} {v_thing v_field v_value : V} (h : obTelling A H a v_thing v_field v_value) {R : V → Prop} (q : R v_field) : ∃ a' C dx fs v, V.ref a = .ref a' ∧ H a' = some (.ins C dx fs) ∧ Cls K C ∧ NoAttr K C "field" ∧ fs.lookup ("field" : Str) = some v ∧ R v :=
  let ⟨dx, e⟩ := h
  ⟨a, A.Telling, dx, _, _, rfl, e, T.cl_Telling, T.na_Telling_field, lk_Telling_field .., q⟩
theorem pt_Telling_field (v_thing v_field v_value y : V) : putF ("field" : Str) y (fs_Telling v_thing v_field v_value) = fs_Telling v_thing y v_value := ((put_past (by decide +kernel)).trans (congrArg _ put_here))
theorem obTelling.set_field (T : Txt K mg A D) {H : Hp} {a : Addr} {v_thing v_field v_value : V} (h : obTelling A H a v_thing v_field v_value) (y : V) {R : Hp → Prop} (q : ∀ H', (∀ b, b ≠ a → H' b = H b) → obTelling A H' a v_thing y v_value → R H') :
    ∃ a' C dx fs, V.ref a = .ref a' ∧ H a' = some (.ins C dx fs) ∧ Cls K C ∧ NoAttr K C "field" ∧ fs.length < 1000 ∧ R (upd H a' (.ins C dx (putF "field" y fs))) :=
  let ⟨dx, e⟩ := h
  ⟨a, A.Telling, dx, _, rfl, e, T.cl_Telling, T.na_Telling_field, (by show 3 < 1000; decide), q _ (fun b hb => upd_ne hb) ⟨dx, by rw [upd_same, pt_Telling_field]⟩⟩
theorem lk_Telling_value (v_thing v_field v_value : V) : (fs_Telling v_thing v_field v_value).lookup ("value" : Str) = some v_value := ((lk_past (by decide +kernel)).trans ((lk_past (by decide +kernel)).trans lk_here))
theorem obTelling.value (T : Txt K mg A D) {H : Hp} {a : Addr} {v_thing v_field v_value : V} (h : obTelling A H a v_thing v_field v_value) {R : V → Prop} (q : R v_value) : ∃ a' C dx fs v, V.ref a = .ref a' ∧ H a' = some (.ins C dx fs) ∧ Cls K C ∧ NoAttr K C "value" ∧ fs.lookup ("value" : Str) = some v ∧ R v :=
  let ⟨dx, e⟩ := h
  ⟨a, A.Telling, dx, _, _, rfl, e, T.cl_Telling, T.na_Telling_value, lk_Telling_value .., q⟩
theorem pt_Telling_value (v_thing v_field v_value y : V) : putF ("value" : Str) y (fs_Telling v_thing v_field v_value) = fs_Telling v_thing v_field y := ((put_past (by decide +kernel)).trans (congrArg _ ((put_past (by decide +kernel)).trans (congrArg _ put_here))))
theorem obTelling.set_value (T : Txt K mg A D) {H : Hp} {a : Addr} {v_thing v_field v_value : V} (h : obTelling A H a v_thing v_field v_value) (y : V) {R : Hp → Prop} (q : ∀ H', (∀ b, b ≠ a → H' b = H b) → obTelling A H' a v_thing v_field y → R H') :
    ∃ a' C dx fs, V.ref a = .ref a' ∧ H a' = some (.ins C dx fs) ∧ Cls K C ∧ NoAttr K C "value" ∧ fs.length < 1000 ∧ R (upd H a' (.ins C dx (putF "value" y fs))) :=
  let ⟨dx, e⟩ := h
  ⟨a, A.Telling, dx, _, rfl, e, T.cl_Telling, T.na_Telling_value, (by show 3 < 1000; decide), q _ (fun b hb => upd_ne hb) ⟨dx, by rw [upd_same, pt_Telling_value]⟩⟩
theorem obTelling.same {H H' : Hp} {a : Addr} {v_thing v_field v_value : V} (h : obTelling A H a v_thing v_field v_value) (s : Same H H') : obTelling A H' a v_thing v_field v_value := let ⟨dx, e⟩ := h; ⟨dx, s _ _ e⟩
theorem obTelling.other {H H' : Hp} {a b : Addr} {v_thing v_field v_value : V} (h : obTelling A H a v_thing v_field v_value) (ne : a ≠ b) (s : ∀ c, c ≠ b → H' c = H c) : obTelling A H' a v_thing v_field v_value := let ⟨dx, e⟩ := h; ⟨dx, by rw [s _ ne]; exact e⟩
def sp_Telling_init (A : Ad) : Sp := fun vs H Q _ => ∃ (p dx : Addr) (v_thing v_field v_value : V), vs = [.ref p, v_thing, v_field, v_value] ∧ H p = some (.ins A.Telling dx []) ∧ ∀ H', (∀ b, b ≠ p → H' b = H b) → obTelling A H' p v_thing v_field v_value → Q .non H'
theorem ok_Telling_init (T : Txt K mg A D) : FnOk P w K mg base CX0 1 A.f_Telling_init D.d_Telling_init ["self", "thing", "field", "value"] (sp_Telling_init A) := by
  refine T.f_Telling_init.ok sc_Telling_init (fun vs H Q E h => ?_) (fun cdv ar outer s H vs Q E hr h => ⟨_, (pss_cons (ps_fld (pv 0) (pv 1) (by rfl))
    (pss_cons (ps_fld (pv 0) (pv 2) (by rfl))
    (pss_one (ps_fld (pv 0) (pv 3) (by rfl))))), ?_⟩)
  · obtain ⟨p, dx, _, _, _, rfl, _⟩ := h
    rfl
  · obtain ⟨p, dx, v_thing, v_field, v_value, rfl, hp, k⟩ := h
    refine ⟨_, rfl, _, rfl, p, A.Telling, dx, _, rfl, hp, T.cl_Telling, T.na_Telling_thing, (by show 0 < 1000; decide), ?_⟩
    refine ⟨_, rfl, _, rfl, p, A.Telling, dx, _, rfl, upd_same, T.cl_Telling, T.na_Telling_field, (by show 1 < 1000; decide), ?_⟩
    refine ⟨_, rfl, _, rfl, p, A.Telling, dx, _, rfl, upd_same, T.cl_Telling, T.na_Telling_value, (by show 2 < 1000; decide), ?_⟩
    refine k _ (fun b hb => ?_) ⟨dx, ?_⟩
    · simp only [upd_ne hb]
    · rw [upd_same]
      refine congrArg (fun q => some (HO.ins A.Telling dx q)) ?_
      first | rfl | (unfold fs_Telling; simp [putF]; done)
theorem mk_Telling {A : Ad} {H : Hp} {v_thing v_field v_value : V} {R : Addr → Hp → Prop} {E : XK} (q : ∀ x H', H x = none → Same H H' → obTelling A H' x v_thing v_field v_value → R x H') : ∀ x dx, H x = none → H dx = none → dx ≠ x → sp_Telling_init A (.ref x :: ([v_thing, v_field, v_value] ++ [])) (upd (upd H dx (.own x)) x (.ins A.Telling dx [])) (fun v H2 => v = .non ∧ R x H2) E := by
  intro x dx nx nd ne
  refine ⟨x, dx, _, _, _, rfl, upd_same, fun H' k e => ⟨rfl, q x H' nx (fun b o hb => ?_) e⟩⟩
  rw [k b (ne_of_none hb nx), upd_ne (ne_of_none hb nx), upd_ne (ne_of_none hb nd)]
  exact hb
def fs_Clearing (v_thing v_field : V) : List (Str × V) := [("thing", v_thing), ("field", v_field)]
def obClearing (A : Ad) (H : Hp) (a : Addr) (v_thing v_field : V) : Prop := ∃ dx, H a = some (.ins A.Clearing dx (fs_Clearing v_thing v_field))
theorem lk_Clearing_thing (v_thing v_field : V) : (fs_Clearing v_thing v_field).lookup ("thing" : Str) = some v_thing := lk_here
theorem obClearing.thing (T : Txt K mg A D) {H : Hp} {a : Addr} {v_thing v_field : V} (h : obClearing A H a v_thing v_field) {R : V → Prop} (q : R v_thing) : ∃ a' C dx fs v, V.ref a = .ref a' ∧ H a' = some (.ins C dx fs) ∧ Cls K C ∧ NoAttr K C "thing" ∧ fs.lookup ("thing" : Str) = some v ∧ R v :=
  let ⟨dx, e⟩ := h
  ⟨a, A.Clearing, dx, _, _, rfl, e, T.cl_Clearing, T.na_Clearing_thing, lk_Clearing_thing .., q⟩
theorem pt_Clearing_thing (v_thing v_field y : V) : putF ("thing" : Str) y (fs_Clearing v_thing v_field) = fs_Clearing y v_field := put_here
theorem obClearing.set_thing (T : Txt K mg A D) {H : Hp} {a : Addr} {v_thing v_field : V} (h : obClearing A H a v_thing v_field) (y : V) {R : Hp → Prop} (q : ∀ H', (∀ b, b ≠ a → H' b = H b) → obClearing A H' a y v_field → R H') :
    ∃ a' C dx fs, V.ref a = .ref a' ∧ H a' = some (.ins C dx fs) ∧ Cls K C ∧ NoAttr K C "thing" ∧ fs.length < 1000 ∧ R (upd H a' (.ins C dx (putF "thing" y fs))) :=
  let ⟨dx, e⟩ := h
  ⟨a, A.Clearing, dx, _, rfl, e, T.cl_Clearing, T.na_Clearing_thing, (by show 2 < 1000; decide), q _ (fun b hb => upd_ne hb) ⟨dx, by rw [upd_same, pt_Clearing_thing]⟩⟩
theorem lk_Clearing_field (v_thing v_field : V) : (fs_Clearing v_thing v_field).lookup ("field" : Str) = some v_field := ((lk_past (by decide +kernel)).trans lk_here)
theorem obClearing.field (T : Txt K mg A D) {H : Hp} {a : Addr} {v_thing v_field : V} (h : obClearing A H a v_thing v_field) {R : V → Prop} (q : R v_field) : ∃ a' C dx fs v, V.ref a = .ref a' ∧ H a' = some (.ins C dx fs) ∧ Cls K C ∧ NoAttr K C "field" ∧ fs.lookup ("field" : Str) = some v ∧ R v :=
  let ⟨dx, e⟩ := h
  ⟨a, A.Clearing, dx, _, _, rfl, e, T.cl_Clearing, T.na_Clearing_field, lk_Clearing_field .., q⟩
theorem pt_Clearing_field (v_thing v_field y : V) : putF ("field" : Str) y (fs_Clearing v_thing v_field) = fs_Clearing v_thing y := ((put_past (by decide +kernel)).trans (congrArg _ put_here))
theorem obClearing.set_field (T : Txt K mg A D) {H : Hp} {a : Addr} {v_thing v_field : V} (h : obClearing A H a v_thing v_field) (y : V) {R : Hp → Prop} (q : ∀ H', (∀ b, b ≠ a → H' b = H b) → obClearing A H' a v_thing y → R H') :
    ∃ a' C dx fs, V.ref a = .ref a' ∧ H a' = some (.ins C dx fs) ∧ Cls K C ∧ NoAttr K C "field" ∧ fs.length < 1000 ∧ R (upd H a' (.ins C dx (putF "field" y fs))) :=
  let ⟨dx, e⟩ := h
  ⟨a, A.Clearing, dx, _, rfl, e, T.cl_Clearing, T.na_Clearing_field, (by show 2 < 1000; decide), q _ (fun b hb => upd_ne hb) ⟨dx, by rw [upd_same, pt_Clearing_field]⟩⟩
theorem obClearing.same {H H' : Hp} {a : Addr} {v_thing v_field : V} (h : obClearing A H a v_thing v_field) (s : Same H H') : obClearing A H' a v_thing v_field := let ⟨dx, e⟩ := h; ⟨dx, s _ _ e⟩
theorem obClearing.other {H H' : Hp} {a b : Addr} {v_thing v_field : V} (h : obClearing A H a v_thing v_field) (ne : a ≠ b) (s : ∀ c, c ≠ b → H' c = H c) : obClearing A H' a v_thing v_field := let ⟨dx, e⟩ := h; ⟨dx, by rw [s _ ne]; exact e⟩
def sp_Clearing_init (A : Ad) : Sp := fun vs H Q _ => ∃ (p dx : Addr) (v_thing v_field : V), vs = [.ref p, v_thing, v_field] ∧ H p = some (.ins A.Clearing dx []) ∧ ∀ H', (∀ b, b ≠ p → H' b = H b) → obClearing A H' p v_thing v_field → Q .non H'
theorem ok_Clearing_init (T : Txt K mg A D) : FnOk P w K mg base CX0 1 A.f_Clearing_init D.d_Clearing_init ["self", "thing", "field"] (sp_Clearing_init A) := by
  refine T.f_Clearing_init.ok sc_Clearing_init (fun vs H Q E h => ?_) (fun cdv ar outer s H vs Q E hr h => ⟨_, (pss_cons (ps_fld (pv 0) (pv 1) (by rfl))
    (pss_one (ps_fld (pv 0) (pv 2) (by rfl)))), ?_⟩)
  · obtain ⟨p, dx, _, _, rfl, _⟩ := h
    rfl
  · obtain ⟨p, dx, v_thing, v_field, rfl, hp, k⟩ := h
    refine ⟨_, rfl, _, rfl, p, A.Clearing, dx, _, rfl, hp, T.cl_Clearing, T.na_Clearing_thing, (by show 0 < 1000; decide), ?_⟩
    refine ⟨_, rfl, _, rfl, p, A.Clearing, dx, _, rfl, upd_same, T.cl_Clearing, T.na_Clearing_field, (by show 1 < 1000; decide), ?_⟩
    refine k _ (fun b hb => ?_) ⟨dx, ?_⟩
    · simp only [upd_ne hb]
    · rw [upd_same]
      refine congrArg (fun q => some (HO.ins A.Clearing dx q)) ?_
      first | rfl | (unfold fs_Clearing; simp [putF]; done)
theorem mk_Clearing {A : Ad} {H : Hp} {v_thing v_field : V} {R : Addr → Hp → Prop} {E : XK} (q : ∀ x H', H x = none → Same H H' → obClearing A H' x v_thing v_field → R x H') : ∀ x dx, H x = none → H dx = none → dx ≠ x → sp_Clearing_init A (.ref x :: ([v_thing, v_field] ++ [])) (upd (upd H dx (.own x)) x (.ins A.Clearing dx [])) (fun v H2 => v = .non ∧ R x H2) E := by
  intro x dx nx nd ne
  refine ⟨x, dx, _, _, rfl, upd_same, fun H' k e => ⟨rfl, q x H' nx (fun b o hb => ?_) e⟩⟩
  rw [k b (ne_of_none hb nx), upd_ne (ne_of_none hb nx), upd_ne (ne_of_none hb nd)]
  exact hb
def fs_Adding (v_thing v_amount : V) : List (Str × V) := [("thing", v_thing), ("amount", v_amount)]
def obAdding (A : Ad) (H : Hp) (a : Addr) (v_thing v_amount : V) : Prop := ∃ dx, H a = some (.ins A.Adding dx (fs_Adding v_thing v_amount))
theorem lk_Adding_thing (v_thing v_amount : V) : (fs_Adding v_thing v_amount).lookup ("thing" : Str) = some v_thing := lk_here
theorem obAdding.thing (T : Txt K mg A D) {H : Hp} {a : Addr} {v_thing v_amount : V} (h : obAdding A H a v_thing v_amount) {R : V → Prop} (q : R v_thing) : ∃ a' C dx fs v, V.ref a = .ref a' ∧ H a' = some (.ins C dx fs) ∧ Cls K C ∧ NoAttr K C "thing" ∧ fs.lookup ("thing" : Str) = some v ∧ R v :=
  let ⟨dx, e⟩ := h
  ⟨a, A.Adding, dx, _, _, rfl, e, T.cl_Adding, T.na_Adding_thing, lk_Adding_thing .., q⟩
theorem pt_Adding_thing (v_thing v_amount y : V) : putF ("thing" : Str) y (fs_Adding v_thing v_amount) = fs_Adding y v_amount := put_here
theorem obAdding.set_thing (T : Txt K mg A D) {H : Hp} {a : Addr} {v_thing v_amount : V} (h : obAdding A H a v_thing v_amount) (y : V) {R : Hp → Prop} (q : ∀ H', (∀ b, b ≠ a → H' b = H b) → obAdding A H' a y v_amount → R H') :
    ∃ a' C dx fs, V.ref a = .ref a' ∧ H a' = some (.ins C dx fs) ∧ Cls K C ∧ NoAttr K C "thing" ∧ fs.length < 1000 ∧ R (upd H a' (.ins C dx (putF "thing" y fs))) :=
  let ⟨dx, e⟩ := h
  ⟨a, A.Adding, dx, _, rfl, e, T.cl_Adding, T.na_Adding_thing, (by show 2 < 1000; decide), q _ (fun b hb => upd_ne hb) ⟨dx, by rw [upd_same, pt_Adding_thing]⟩⟩
theorem lk_Adding_amount (v_thing v_amount : V) : (fs_Adding v_thing v_amount).lookup ("amount" : Str) = some v_amount := ((lk_past (by decide +kernel)).trans lk_here)
theorem obAdding.amount (T : Txt K mg A D) {H : Hp} {a : Addr} {v_thing v_amount : V} (h : obAdding A H a v_thing v_amount) {R : V → Prop} (q : R v_amount) : ∃ a' C dx fs v, V.ref a = .ref a' ∧ H a' = some (.ins C dx fs) ∧ Cls K C ∧ NoAttr K C "amount" ∧ fs.lookup ("amount" : Str) = some v ∧ R v :=
  let ⟨dx, e⟩ := h
  ⟨a, A.Adding, dx, _, _, rfl, e, T.cl_Adding, T.na_Adding_amount, lk_Adding_amount .., q⟩
theorem pt_Adding_amount (v_thing v_amount y : V) : putF ("amount" : Str) y (fs_Adding v_thing v_amount) = fs_Adding v_thing y := ((put_past (by decide +kernel)).trans (congrArg _ put_here))
theorem obAdding.set_amount (T : Txt K mg A D) {H : Hp} {a : Addr} {v_thing v_amount : V} (h : obAdding A H a v_thing v_amount) (y : V) {R : Hp → Prop} (q : ∀ H', (∀ b, b ≠ a → H' b = H b) → obAdding A H' a v_thing y → R H') :
    ∃ a' C dx fs, V.ref a = .ref a' ∧ H a' = some (.ins C dx fs) ∧ Cls K C ∧ NoAttr K C "amount" ∧ fs.length < 1000 ∧ R (upd H a' (.ins C dx (putF "amount" y fs))) :=
  let ⟨dx, e⟩ := h
  ⟨a, A.Adding, dx, _, rfl, e, T.cl_Adding, T.na_Adding_amount, (by show 2 < 1000; decide), q _ (fun b hb => upd_ne hb) ⟨dx, by rw [upd_same, pt_Adding_amount]⟩⟩
theorem obAdding.same {H H' : Hp} {a : Addr} {v_thing v_amount : V} (h : obAdding A H a v_thing v_amount) (s : Same H H') : obAdding A H' a v_thing v_amount := let ⟨dx, e⟩ := h; ⟨dx, s _ _ e⟩
theorem obAdding.other {H H' : Hp} {a b : Addr} {v_thing v_amount : V} (h : obAdding A H a v_thing v_amount) (ne : a ≠ b) (s : ∀ c, c ≠ b → H' c = H c) : obAdding A H' a v_thing v_amount := let ⟨dx, e⟩ := h; ⟨dx, by rw [s _ ne]; exact e⟩
def sp_Adding_init (A : Ad) : Sp := fun vs H Q _ => ∃ (p dx : Addr) (v_thing v_amount : V), vs = [.ref p, v_thing, v_amount] ∧ H p = some (.ins A.Adding dx []) ∧ ∀ H', (∀ b, b ≠ p → H' b = H b) → obAdding A H' p v_thing v_amount → Q .non H'
theorem ok_Adding_init (T : Txt K mg A D) : FnOk P w K mg base CX0 1 A.f_Adding_init D.d_Adding_init ["self", "thing", "amount"] (sp_Adding_init A) := by
  refine T.f_Adding_init.ok sc_Adding_init (fun vs H Q E h => ?_) (fun cdv ar outer s H vs Q E hr h => ⟨_, (pss_cons (ps_fld (pv 0) (pv 1) (by rfl))
    (pss_one (ps_fld (pv 0) (pv 2) (by rfl)))), ?_⟩)
  · obtain ⟨p, dx, _, _, rfl, _⟩ := h
    rfl
  · obtain ⟨p, dx, v_thing, v_amount, rfl, hp, k⟩ := h
    refine ⟨_, rfl, _, rfl, p, A.Adding, dx, _, rfl, hp, T.cl_Adding, T.na_Adding_thing, (by show 0 < 1000; decide), ?_⟩
    refine ⟨_, rfl, _, rfl, p, A.Adding, dx, _, rfl, upd_same, T.cl_Adding, T.na_Adding_amount, (by show 1 < 1000; decide), ?_⟩
    refine k _ (fun b hb => ?_) ⟨dx, ?_⟩
    · simp only [upd_ne hb]
    · rw [upd_same]
      refine congrArg (fun q => some (HO.ins A.Adding dx q)) ?_
      first | rfl | (unfold fs_Adding; simp [putF]; done)
theorem mk_Adding {A : Ad} {H : Hp} {v_thing v_amount : V} {R : Addr → Hp → Prop} {E : XK} (q : ∀ x H', H x = none → Same H H' → obAdding A H' x v_thing v_amount → R x H') : ∀ x dx, H x = none → H dx = none → dx ≠ x → sp_Adding_init A (.ref x :: ([v_thing, v_amount] ++ [])) (upd (upd H dx (.own x)) x (.ins A.Adding dx [])) (fun v H2 => v = .non ∧ R x H2) E := by
  intro x dx nx nd ne
  refine ⟨x, dx, _, _, rfl, upd_same, fun H' k e => ⟨rfl, q x H' nx (fun b o hb => ?_) e⟩⟩
  rw [k b (ne_of_none hb nx), upd_ne (ne_of_none hb nx), upd_ne (ne_of_none hb nd)]
  exact hb
def fs_TakingBack (v_deed : V) : List (Str × V) := [("deed", v_deed)]
def obTakingBack (A : Ad) (H : Hp) (a : Addr) (v_deed : V) : Prop := ∃ dx, H a = some (.ins A.TakingBack dx (fs_TakingBack v_deed))
theorem lk_TakingBack_deed (v_deed : V) : (fs_TakingBack v_deed).lookup ("deed" : Str) = some v_deed := lk_here
theorem obTakingBack.deed (T : Txt K mg A D) {H : Hp} {a : Addr} {v_deed : V} (h : obTakingBack A H a v_deed) {R : V → Prop} (q : R v_deed) : ∃ a' C dx fs v, V.ref a = .ref a' ∧ H a' = some (.ins C dx fs) ∧ Cls K C ∧ NoAttr K C "deed" ∧ fs.lookup ("deed" : Str) = some v ∧ R v :=
  let ⟨dx, e⟩ := h
  ⟨a, A.TakingBack, dx, _, _, rfl, e, T.cl_TakingBack, T.na_TakingBack_deed, lk_TakingBack_deed .., q⟩
theorem pt_TakingBack_deed (v_deed y : V) : putF ("deed" : Str) y (fs_TakingBack v_deed) = fs_TakingBack y := put_here
theorem obTakingBack.set_deed (T : Txt K mg A D) {H : Hp} {a : Addr} {v_deed : V} (h : obTakingBack A H a v_deed) (y : V) {R : Hp → Prop} (q : ∀ H', (∀ b, b ≠ a → H' b = H b) → obTakingBack A H' a y → R H') :
    ∃ a' C dx fs, V.ref a = .ref a' ∧ H a' = some (.ins C dx fs) ∧ Cls K C ∧ NoAttr K C "deed" ∧ fs.length < 1000 ∧ R (upd H a' (.ins C dx (putF "deed" y fs))) :=
  let ⟨dx, e⟩ := h
  ⟨a, A.TakingBack, dx, _, rfl, e, T.cl_TakingBack, T.na_TakingBack_deed, (by show 1 < 1000; decide), q _ (fun b hb => upd_ne hb) ⟨dx, by rw [upd_same, pt_TakingBack_deed]⟩⟩
theorem obTakingBack.same {H H' : Hp} {a : Addr} {v_deed : V} (h : obTakingBack A H a v_deed) (s : Same H H') : obTakingBack A H' a v_deed := let ⟨dx, e⟩ := h; ⟨dx, s _ _ e⟩
theorem obTakingBack.other {H H' : Hp} {a b : Addr} {v_deed : V} (h : obTakingBack A H a v_deed) (ne : a ≠ b) (s : ∀ c, c ≠ b → H' c = H c) : obTakingBack A H' a v_deed := let ⟨dx, e⟩ := h; ⟨dx, by rw [s _ ne]; exact e⟩
def sp_TakingBack_init (A : Ad) : Sp := fun vs H Q _ => ∃ (p dx : Addr) (v_deed : V), vs = [.ref p, v_deed] ∧ H p = some (.ins A.TakingBack dx []) ∧ ∀ H', (∀ b, b ≠ p → H' b = H b) → obTakingBack A H' p v_deed → Q .non H'
theorem ok_TakingBack_init (T : Txt K mg A D) : FnOk P w K mg base CX0 1 A.f_TakingBack_init D.d_TakingBack_init ["self", "deed"] (sp_TakingBack_init A) := by
  refine T.f_TakingBack_init.ok sc_TakingBack_init (fun vs H Q E h => ?_) (fun cdv ar outer s H vs Q E hr h => ⟨_, (pss_one (ps_fld (pv 0) (pv 1) (by rfl))), ?_⟩)
  · obtain ⟨p, dx, _, rfl, _⟩ := h
    rfl
  · obtain ⟨p, dx, v_deed, rfl, hp, k⟩ := h
    refine ⟨_, rfl, _, rfl, p, A.TakingBack, dx, _, rfl, hp, T.cl_TakingBack, T.na_TakingBack_deed, (by show 0 < 1000; decide), ?_⟩
    refine k _ (fun b hb => ?_) ⟨dx, ?_⟩
    · simp only [upd_ne hb]
    · rw [upd_same]
      refine congrArg (fun q => some (HO.ins A.TakingBack dx q)) ?_
      first | rfl | (unfold fs_TakingBack; simp [putF]; done)
theorem mk_TakingBack {A : Ad} {H : Hp} {v_deed : V} {R : Addr → Hp → Prop} {E : XK} (q : ∀ x H', H x = none → Same H H' → obTakingBack A H' x v_deed → R x H') : ∀ x dx, H x = none → H dx = none → dx ≠ x → sp_TakingBack_init A (.ref x :: ([v_deed] ++ [])) (upd (upd H dx (.own x)) x (.ins A.TakingBack dx [])) (fun v H2 => v = .non ∧ R x H2) E := by
  intro x dx nx nd ne
  refine ⟨x, dx, _, rfl, upd_same, fun H' k e => ⟨rfl, q x H' nx (fun b o hb => ?_) e⟩⟩
  rw [k b (ne_of_none hb nx), upd_ne (ne_of_none hb nx), upd_ne (ne_of_none hb nd)]
  exact hb
def fs_DoingAgain (v_deed : V) : List (Str × V) := [("deed", v_deed)]
def obDoingAgain (A : Ad) (H : Hp) (a : Addr) (v_deed : V) : Prop := ∃ dx, H a = some (.ins A.DoingAgain dx (fs_DoingAgain v_deed))
theorem lk_DoingAgain_deed (v_deed : V) : (fs_DoingAgain v_deed).lookup ("deed" : Str) = some v_deed := lk_here
theorem obDoingAgain.deed (T : Txt K mg A D) {H : Hp} {a : Addr} {v_deed : V} (h : obDoingAgain A H a v_deed) {R : V → Prop} (q : R v_deed) : ∃ a' C dx fs v, V.ref a = .ref a' ∧ H a' = some (.ins C dx fs) ∧ Cls K C ∧ NoAttr K C "deed" ∧ fs.lookup ("deed" : Str) = some v ∧ R v :=
  let ⟨dx, e⟩ := h
  ⟨a, A.DoingAgain, dx, _, _, rfl, e, T.cl_DoingAgain, T.na_DoingAgain_deed, lk_DoingAgain_deed .., q⟩
theorem pt_DoingAgain_deed (v_deed y : V) : putF ("deed" : Str) y (fs_DoingAgain v_deed) = fs_DoingAgain y := put_here
theorem obDoingAgain.set_deed (T : Txt K mg A D) {H : Hp} {a : Addr} {v_deed : V} (h : obDoingAgain A H a v_deed) (y : V) {R : Hp → Prop} (q : ∀ H', (∀ b, b ≠ a → H' b = H b) → obDoingAgain A H' a y → R H') :
    ∃ a' C dx fs, V.ref a = .ref a' ∧ H a' = some (.ins C dx fs) ∧ Cls K C ∧ NoAttr K C "deed" ∧ fs.length < 1000 ∧ R (upd H a' (.ins C dx (putF "deed" y fs))) :=
  let ⟨dx, e⟩ := h
  ⟨a, A.DoingAgain, dx, _, rfl, e, T.cl_DoingAgain, T.na_DoingAgain_deed, (by show 1 < 1000; decide), q _ (fun b hb => upd_ne hb) ⟨dx, by rw [upd_same, pt_DoingAgain_deed]⟩⟩
theorem obDoingAgain.same {H H' : Hp} {a : Addr} {v_deed : V} (h : obDoingAgain A H a v_deed) (s : Same H H') : obDoingAgain A H' a v_deed := let ⟨dx, e⟩ := h; ⟨dx, s _ _ e⟩
theorem obDoingAgain.other {H H' : Hp} {a b : Addr} {v_deed : V} (h : obDoingAgain A H a v_deed) (ne : a ≠ b) (s : ∀ c, c ≠ b → H' c = H c) : obDoingAgain A H' a v_deed := let ⟨dx, e⟩ := h; ⟨dx, by rw [s _ ne]; exact e⟩
def sp_DoingAgain_init (A : Ad) : Sp := fun vs H Q _ => ∃ (p dx : Addr) (v_deed : V), vs = [.ref p, v_deed] ∧ H p = some (.ins A.DoingAgain dx []) ∧ ∀ H', (∀ b, b ≠ p → H' b = H b) → obDoingAgain A H' p v_deed → Q .non H'
theorem ok_DoingAgain_init (T : Txt K mg A D) : FnOk P w K mg base CX0 1 A.f_DoingAgain_init D.d_DoingAgain_init ["self", "deed"] (sp_DoingAgain_init A) := by
  refine T.f_DoingAgain_init.ok sc_DoingAgain_init (fun vs H Q E h => ?_) (fun cdv ar outer s H vs Q E hr h => ⟨_, (pss_one (ps_fld (pv 0) (pv 1) (by rfl))), ?_⟩)
  · obtain ⟨p, dx, _, rfl, _⟩ := h
    rfl
  · obtain ⟨p, dx, v_deed, rfl, hp, k⟩ := h
    refine ⟨_, rfl, _, rfl, p, A.DoingAgain, dx, _, rfl, hp, T.cl_DoingAgain, T.na_DoingAgain_deed, (by show 0 < 1000; decide), ?_⟩
    refine k _ (fun b hb => ?_) ⟨dx, ?_⟩
    · simp only [upd_ne hb]
    · rw [upd_same]
      refine congrArg (fun q => some (HO.ins A.DoingAgain dx q)) ?_
      first | rfl | (unfold fs_DoingAgain; simp [putF]; done)
theorem mk_DoingAgain {A : Ad} {H : Hp} {v_deed : V} {R : Addr → Hp → Prop} {E : XK} (q : ∀ x H', H x = none → Same H H' → obDoingAgain A H' x v_deed → R x H') : ∀ x dx, H x = none → H dx = none → dx ≠ x → sp_DoingAgain_init A (.ref x :: ([v_deed] ++ [])) (upd (upd H dx (.own x)) x (.ins A.DoingAgain dx [])) (fun v H2 => v = .non ∧ R x H2) E := by
  intro x dx nx nd ne
  refine ⟨x, dx, _, rfl, upd_same, fun H' k e => ⟨rfl, q x H' nx (fun b o hb => ?_) e⟩⟩
  rw [k b (ne_of_none hb nx), upd_ne (ne_of_none hb nx), upd_ne (ne_of_none hb nd)]
  exact hb
def fs_Deed (v_number v_desk v_rank v_count v_saw v_act : V) : List (Str × V) := [("number", v_number), ("desk", v_desk), ("rank", v_rank), ("count", v_count), ("saw", v_saw), ("act", v_act)]
def obDeed (A : Ad) (H : Hp) (a : Addr) (v_number v_desk v_rank v_count v_saw v_act : V) : Prop := ∃ dx, H a = some (.ins A.Deed dx (fs_Deed v_number v_desk v_rank v_count v_saw v_act))
theorem lk_Deed_number (v_number v_desk v_rank v_count v_saw v_act : V) : (fs_Deed v_number v_desk v_rank v_count v_saw v_act).lookup ("number" : Str) = some v_number := lk_here
theorem obDeed.number (T : Txt K mg A D) {H : Hp} {a : Addr} {v_number v_desk v_rank v_count v_saw v_act : V} (h : obDeed A H a v_number v_desk v_rank v_count v_saw v_act) {R : V → Prop} (q : R v_number) : ∃ a' C dx fs v, V.ref a = .ref a' ∧ H a' = some (.ins C dx fs) ∧ Cls K C ∧ NoAttr K C "number" ∧ fs.lookup ("number" : Str) = some v ∧ R v :=
  let ⟨dx, e⟩ := h
  ⟨a, A.Deed, dx, _, _, rfl, e, T.cl_Deed, T.na_Deed_number, lk_Deed_number .., q⟩
theorem pt_Deed_number (v_number v_desk v_rank v_count v_saw v_act y : V) : putF ("number" : Str) y (fs_Deed v_number v_desk v_rank v_count v_saw v_act) = fs_Deed y v_desk v_rank v_count v_saw v_act := put_here
theorem obDeed.set_number (T : Txt K mg A D) {H : Hp} {a : Addr} {v_number v_desk v_rank v_count v_saw v_act : V} (h : obDeed A H a v_number v_desk v_rank v_count v_saw v_act) (y : V) {R : Hp → Prop} (q : ∀ H', (∀ b, b ≠ a → H' b = H b) → obDeed A H' a y v_desk v_rank v_count v_saw v_act → R H') :
    ∃ a' C dx fs, V.ref a = .ref a' ∧ H a' = some (.ins C dx fs) ∧ Cls K C ∧ NoAttr K C "number" ∧ fs.length < 1000 ∧ R (upd H a' (.ins C dx (putF "number" y fs))) :=
  let ⟨dx, e⟩ := h
  ⟨a, A.Deed, dx, _, rfl, e, T.cl_Deed, T.na_Deed_number, (by show 6 < 1000; decide), q _ (fun b hb => upd_ne hb) ⟨dx, by rw [upd_same, pt_Deed_number]⟩⟩
theorem lk_Deed_desk (v_number v_desk v_rank v_count v_saw v_act : V) : (fs_Deed v_number v_desk v_rank v_count v_saw v_act).lookup ("desk" : Str) = some v_desk := ((lk_past (by decide +kernel)).trans lk_here)
theorem obDeed.desk (T : Txt K mg A D) {H : Hp} {a : Addr} {v_number v_desk v_rank v_count v_saw v_act : V} (h : obDeed A H a v_number v_desk v_rank v_count v_saw v_act) {R : V → Prop} (q : R v_desk) : ∃ a' C dx fs v, V.ref a = .ref a' ∧ H a' = some (.ins C dx fs) ∧ Cls K C ∧ NoAttr K C "desk" ∧ fs.lookup ("desk" : Str) = some v ∧ R v :=
  let ⟨dx, e⟩ := h
  ⟨a, A.Deed, dx, _, _, rfl, e, T.cl_Deed, T.na_Deed_desk, lk_Deed_desk .., q⟩
theorem pt_Deed_desk (v_number v_desk v_rank v_count v_saw v_act y : V) : putF ("desk" : Str) y (fs_Deed v_number v_desk v_rank v_count v_saw v_act) = fs_Deed v_number y v_rank v_count v_saw v_act := ((put_past (by decide +kernel)).trans (congrArg _ put_here))
theorem obDeed.set_desk (T : Txt K mg A D) {H : Hp} {a : Addr} {v_number v_desk v_rank v_count v_saw v_act : V} (h : obDeed A H a v_number v_desk v_rank v_count v_saw v_act) (y : V) {R : Hp → Prop} (q : ∀ H', (∀ b, b ≠ a → H' b = H b) → obDeed A H' a v_number y v_rank v_count v_saw v_act → R H') :
    ∃ a' C dx fs, V.ref a = .ref a' ∧ H a' = some (.ins C dx fs) ∧ Cls K C ∧ NoAttr K C "desk" ∧ fs.length < 1000 ∧ R (upd H a' (.ins C dx (putF "desk" y fs))) :=
  let ⟨dx, e⟩ := h
  ⟨a, A.Deed, dx, _, rfl, e, T.cl_Deed, T.na_Deed_desk, (by show 6 < 1000; decide), q _ (fun b hb => upd_ne hb) ⟨dx, by rw [upd_same, pt_Deed_desk]⟩⟩
theorem lk_Deed_rank (v_number v_desk v_rank v_count v_saw v_act : V) : (fs_Deed v_number v_desk v_rank v_count v_saw v_act).lookup ("rank" : Str) = some v_rank := ((lk_past (by decide +kernel)).trans ((lk_past (by decide +kernel)).trans lk_here))
theorem obDeed.rank (T : Txt K mg A D) {H : Hp} {a : Addr} {v_number v_desk v_rank v_count v_saw v_act : V} (h : obDeed A H a v_number v_desk v_rank v_count v_saw v_act) {R : V → Prop} (q : R v_rank) : ∃ a' C dx fs v, V.ref a = .ref a' ∧ H a' = some (.ins C dx fs) ∧ Cls K C ∧ NoAttr K C "rank" ∧ fs.lookup ("rank" : Str) = some v ∧ R v :=
  let ⟨dx, e⟩ := h
  ⟨a, A.Deed, dx, _, _, rfl, e, T.cl_Deed, T.na_Deed_rank, lk_Deed_rank .., q⟩
theorem pt_Deed_rank (v_number v_desk v_rank v_count v_saw v_act y : V) : putF ("rank" : Str) y (fs_Deed v_number v_desk v_rank v_count v_saw v_act) = fs_Deed v_number v_desk y v_count v_saw v_act := ((put_past (by decide +kernel)).trans (congrArg _ ((put_past (by decide +kernel)).trans (congrArg _ put_here))))
theorem obDeed.set_rank (T : Txt K mg A D) {H : Hp} {a : Addr} {v_number v_desk v_rank v_count v_saw v_act : V} (h : obDeed A H a v_number v_desk v_rank v_count v_saw v_act) (y : V) {R : Hp → Prop} (q : ∀ H', (∀ b, b ≠ a → H' b = H b) → obDeed A H' a v_number v_desk y v_count v_saw v_act → R H') :
    ∃ a' C dx fs, V.ref a = .ref a' ∧ H a' = some (.ins C dx fs) ∧ Cls K C ∧ NoAttr K C "rank" ∧ fs.length < 1000 ∧ R (upd H a' (.ins C dx (putF "rank" y fs))) :=
  let ⟨dx, e⟩ := h
  ⟨a, A.Deed, dx, _, rfl, e, T.cl_Deed, T.na_Deed_rank, (by show 6 < 1000; decide), q _ (fun b hb => upd_ne hb) ⟨dx, by rw [upd_same, pt_Deed_rank]⟩⟩
theorem lk_Deed_count (v_number v_desk v_rank v_count v_saw v_act : V) : (fs_Deed v_number v_desk v_rank v_count v_saw v_act).lookup ("count" : Str) = some v_count := ((lk_past (by decide +kernel)).trans ((lk_past (by decide +kernel)).trans ((lk_past (by decide +kernel)).trans lk_here)))
theorem obDeed.count (T : Txt K mg A D) {H : Hp} {a : Addr} {v_number v_desk v_rank v_count v_saw v_act : V} (h : obDeed A H a v_number v_desk v_rank v_count v_saw v_act) {R : V → Prop} (q : R v_count) : ∃ a' C dx fs v, V.ref a = .ref a' ∧ H a' = some (.ins C dx fs) ∧ Cls K C ∧ NoAttr K C "count" ∧ fs.lookup ("count" : Str) = some v ∧ R v :=
  let ⟨dx, e⟩ := h
  ⟨a, A.Deed, dx, _, _, rfl, e, T.cl_Deed, T.na_Deed_count, lk_Deed_count .., q⟩
theorem pt_Deed_count (v_number v_desk v_rank v_count v_saw v_act y : V) : putF ("count" : Str) y (fs_Deed v_number v_desk v_rank v_count v_saw v_act) = fs_Deed v_number v_desk v_rank y v_saw v_act := ((put_past (by decide +kernel)).trans (congrArg _ ((put_past (by decide +kernel)).trans (congrArg _ ((put_past (by decide +kernel)).trans (congrArg _ put_here))))))
theorem obDeed.set_count (T : Txt K mg A D) {H : Hp} {a : Addr} {v_number v_desk v_rank v_count v_saw v_act : V} (h : obDeed A H a v_number v_desk v_rank v_count v_saw v_act) (y : V) {R : Hp → Prop} (q : ∀ H', (∀ b, b ≠ a → H' b = H b) → obDeed A H' a v_number v_desk v_rank y v_saw v_act → R H') :
    ∃ a' C dx fs, V.ref a = .ref a' ∧ H a' = some (.ins C dx fs) ∧ Cls K C ∧ NoAttr K C "count" ∧ fs.length < 1000 ∧ R (upd H a' (.ins C dx (putF "count" y fs))) :=
  let ⟨dx, e⟩ := h
  ⟨a, A.Deed, dx, _, rfl, e, T.cl_Deed, T.na_Deed_count, (by show 6 < 1000; decide), q _ (fun b hb => upd_ne hb) ⟨dx, by rw [upd_same, pt_Deed_count]⟩⟩
theorem lk_Deed_saw (v_number v_desk v_rank v_count v_saw v_act : V) : (fs_Deed v_number v_desk v_rank v_count v_saw v_act).lookup ("saw" : Str) = some v_saw := ((lk_past (by decide +kernel)).trans ((lk_past (by decide +kernel)).trans ((lk_past (by decide +kernel)).trans ((lk_past (by decide +kernel)).trans lk_here))))
theorem obDeed.saw (T : Txt K mg A D) {H : Hp} {a : Addr} {v_number v_desk v_rank v_count v_saw v_act : V} (h : obDeed A H a v_number v_desk v_rank v_count v_saw v_act) {R : V → Prop} (q : R v_saw) : ∃ a' C dx fs v, V.ref a = .ref a' ∧ H a' = some (.ins C dx fs) ∧ Cls K C ∧ NoAttr K C "saw" ∧ fs.lookup ("saw" : Str) = some v ∧ R v :=
  let ⟨dx, e⟩ := h
  ⟨a, A.Deed, dx, _, _, rfl, e, T.cl_Deed, T.na_Deed_saw, lk_Deed_saw .., q⟩
theorem pt_Deed_saw (v_number v_desk v_rank v_count v_saw v_act y : V) : putF ("saw" : Str) y (fs_Deed v_number v_desk v_rank v_count v_saw v_act) = fs_Deed v_number v_desk v_rank v_count y v_act := ((put_past (by decide +kernel)).trans (congrArg _ ((put_past (by decide +kernel)).trans (congrArg _ ((put_past (by decide +kernel)).trans (congrArg _ ((put_past (by decide +kernel)).trans (congrArg _ put_here))))))))
theorem obDeed.set_saw (T : Txt K mg A D) {H : Hp} {a : Addr} {v_number v_desk v_rank v_count v_saw v_act : V} (h : obDeed A H a v_number v_desk v_rank v_count v_saw v_act) (y : V) {R : Hp → Prop} (q : ∀ H', (∀ b, b ≠ a → H' b = H b) → obDeed A H' a v_number v_desk v_rank v_count y v_act → R H') :
    ∃ a' C dx fs, V.ref a = .ref a' ∧ H a' = some (.ins C dx fs) ∧ Cls K C ∧ NoAttr K C "saw" ∧ fs.length < 1000 ∧ R (upd H a' (.ins C dx (putF "saw" y fs))) :=
  let ⟨dx, e⟩ := h
  ⟨a, A.Deed, dx, _, rfl, e, T.cl_Deed, T.na_Deed_saw, (by show 6 < 1000; decide), q _ (fun b hb => upd_ne hb) ⟨dx, by rw [upd_same, pt_Deed_saw]⟩⟩
theorem lk_Deed_act (v_number v_desk v_rank v_count v_saw v_act : V) : (fs_Deed v_number v_desk v_rank v_count v_saw v_act).lookup ("act" : Str) = some v_act := ((lk_past (by decide +kernel)).trans ((lk_past (by decide +kernel)).trans ((lk_past (by decide +kernel)).trans ((lk_past (by decide +kernel)).trans ((lk_past (by decide +kernel)).trans lk_here)))))
theorem obDeed.act (T : Txt K mg A D) {H : Hp} {a : Addr} {v_number v_desk v_rank v_count v_saw v_act : V} (h : obDeed A H a v_number v_desk v_rank v_count v_saw v_act) {R : V → Prop} (q : R v_act) : ∃ a' C dx fs v, V.ref a = .ref a' ∧ H a' = some (.ins C dx fs) ∧ Cls K C ∧ NoAttr K C "act" ∧ fs.lookup ("act" : Str) = some v ∧ R v :=
  let ⟨dx, e⟩ := h
  ⟨a, A.Deed, dx, _, _, rfl, e, T.cl_Deed, T.na_Deed_act, lk_Deed_act .., q⟩
theorem pt_Deed_act (v_number v_desk v_rank v_count v_saw v_act y : V) : putF ("act" : Str) y (fs_Deed v_number v_desk v_rank v_count v_saw v_act) = fs_Deed v_number v_desk v_rank v_count v_saw y := ((put_past (by decide +kernel)).trans (congrArg _ ((put_past (by decide +kernel)).trans (congrArg _ ((put_past (by decide +kernel)).trans (congrArg _ ((put_past (by decide +kernel)).trans (congrArg _ ((put_past (by decide +kernel)).trans (congrArg _ put_here))))))))))
theorem obDeed.set_act (T : Txt K mg A D) {H : Hp} {a : Addr} {v_number v_desk v_rank v_count v_saw v_act : V} (h : obDeed A H a v_number v_desk v_rank v_count v_saw v_act) (y : V) {R : Hp → Prop} (q : ∀ H', (∀ b, b ≠ a → H' b = H b) → obDeed A H' a v_number v_desk v_rank v_count v_saw y → R H') :
    ∃ a' C dx fs, V.ref a = .ref a' ∧ H a' = some (.ins C dx fs) ∧ Cls K C ∧ NoAttr K C "act" ∧ fs.length < 1000 ∧ R (upd H a' (.ins C dx (putF "act" y fs))) :=
  let ⟨dx, e⟩ := h
  ⟨a, A.Deed, dx, _, rfl, e, T.cl_Deed, T.na_Deed_act, (by show 6 < 1000; decide), q _ (fun b hb => upd_ne hb) ⟨dx, by rw [upd_same, pt_Deed_act]⟩⟩
theorem obDeed.same {H H' : Hp} {a : Addr} {v_number v_desk v_rank v_count v_saw v_act : V} (h : obDeed A H a v_number v_desk v_rank v_count v_saw v_act) (s : Same H H') : obDeed A H' a v_number v_desk v_rank v_count v_saw v_act := let ⟨dx, e⟩ := h; ⟨dx, s _ _ e⟩
theorem obDeed.other {H H' : Hp} {a b : Addr} {v_number v_desk v_rank v_count v_saw v_act : V} (h : obDeed A H a v_number v_desk v_rank v_count v_saw v_act) (ne : a ≠ b) (s : ∀ c, c ≠ b → H' c = H c) : obDeed A H' a v_number v_desk v_rank v_count v_saw v_act := let ⟨dx, e⟩ := h; ⟨dx, by rw [s _ ne]; exact e⟩
def sp_Deed_init (A : Ad) : Sp := fun vs H Q _ => ∃ (p dx : Addr) (v_number v_desk v_rank v_count v_saw v_act : V), vs = [.ref p, v_number, v_desk, v_rank, v_count, v_saw, v_act] ∧ H p = some (.ins A.Deed dx []) ∧ ∀ H', (∀ b, b ≠ p → H' b = H b) → obDeed A H' p v_number v_desk v_rank v_count v_saw v_act → Q .non H'
theorem ok_Deed_init (T : Txt K mg A D) : FnOk P w K mg base CX0 1 A.f_Deed_init D.d_Deed_init ["self", "number", "desk", "rank", "count", "saw", "act"] (sp_Deed_init A) := by
  refine T.f_Deed_init.ok sc_Deed_init (fun vs H Q E h => ?_) (fun cdv ar outer s H vs Q E hr h => ⟨_, (pss_cons (ps_fld (pv 0) (pv 1) (by rfl))
    (pss_cons (ps_fld (pv 0) (pv 2) (by rfl))
    (pss_cons (ps_fld (pv 0) (pv 3) (by rfl))
    (pss_cons (ps_fld (pv 0) (pv 4) (by rfl))
    (pss_cons (ps_fld (pv 0) (pv 5) (by rfl))
    (pss_one (ps_fld (pv 0) (pv 6) (by rfl)))))))), ?_⟩)
  · obtain ⟨p, dx, _, _, _, _, _, _, rfl, _⟩ := h
    rfl
  · obtain ⟨p, dx, v_number, v_desk, v_rank, v_count, v_saw, v_act, rfl, hp, k⟩ := h
    refine ⟨_, rfl, _, rfl, p, A.Deed, dx, _, rfl, hp, T.cl_Deed, T.na_Deed_number, (by show 0 < 1000; decide), ?_⟩
    refine ⟨_, rfl, _, rfl, p, A.Deed, dx, _, rfl, upd_same, T.cl_Deed, T.na_Deed_desk, (by show 1 < 1000; decide), ?_⟩
    refine ⟨_, rfl, _, rfl, p, A.Deed, dx, _, rfl, upd_same, T.cl_Deed, T.na_Deed_rank, (by show 2 < 1000; decide), ?_⟩
    refine ⟨_, rfl, _, rfl, p, A.Deed, dx, _, rfl, upd_same, T.cl_Deed, T.na_Deed_count, (by show 3 < 1000; decide), ?_⟩
    refine ⟨_, rfl, _, rfl, p, A.Deed, dx, _, rfl, upd_same, T.cl_Deed, T.na_Deed_saw, (by show 4 < 1000; decide), ?_⟩
    refine ⟨_, rfl, _, rfl, p, A.Deed, dx, _, rfl, upd_same, T.cl_Deed, T.na_Deed_act, (by show 5 < 1000; decide), ?_⟩
    refine k _ (fun b hb => ?_) ⟨dx, ?_⟩
    · simp only [upd_ne hb]
    · rw [upd_same]
      refine congrArg (fun q => some (HO.ins A.Deed dx q)) ?_
      first | rfl | (unfold fs_Deed; simp [putF]; done)
theorem mk_Deed {A : Ad} {H : Hp} {v_number v_desk v_rank v_count v_saw v_act : V} {R : Addr → Hp → Prop} {E : XK} (q : ∀ x H', H x = none → Same H H' → obDeed A H' x v_number v_desk v_rank v_count v_saw v_act → R x H') : ∀ x dx, H x = none → H dx = none → dx ≠ x → sp_Deed_init A (.ref x :: ([v_number, v_desk, v_rank, v_count, v_saw, v_act] ++ [])) (upd (upd H dx (.own x)) x (.ins A.Deed dx [])) (fun v H2 => v = .non ∧ R x H2) E := by
  intro x dx nx nd ne
  refine ⟨x, dx, _, _, _, _, _, _, rfl, upd_same, fun H' k e => ⟨rfl, q x H' nx (fun b o hb => ?_) e⟩⟩
  rw [k b (ne_of_none hb nx), upd_ne (ne_of_none hb nx), upd_ne (ne_of_none hb nd)]
  exact hb
def fs_Desk (v_greatest v_counts v_sure v_heard v_forgotten : V) : List (Str × V) := [("greatest", v_greatest), ("counts", v_counts), ("sure", v_sure), ("heard", v_heard), ("forgotten", v_forgotten)]
def obDesk (A : Ad) (H : Hp) (a : Addr) (v_greatest v_counts v_sure v_heard v_forgotten : V) : Prop := ∃ dx, H a = some (.ins A.Desk dx (fs_Desk v_greatest v_counts v_sure v_heard v_forgotten))
theorem lk_Desk_greatest (v_greatest v_counts v_sure v_heard v_forgotten : V) : (fs_Desk v_greatest v_counts v_sure v_heard v_forgotten).lookup ("greatest" : Str) = some v_greatest := lk_here
theorem obDesk.greatest (T : Txt K mg A D) {H : Hp} {a : Addr} {v_greatest v_counts v_sure v_heard v_forgotten : V} (h : obDesk A H a v_greatest v_counts v_sure v_heard v_forgotten) {R : V → Prop} (q : R v_greatest) : ∃ a' C dx fs v, V.ref a = .ref a' ∧ H a' = some (.ins C dx fs) ∧ Cls K C ∧ NoAttr K C "greatest" ∧ fs.lookup ("greatest" : Str) = some v ∧ R v :=
  let ⟨dx, e⟩ := h
  ⟨a, A.Desk, dx, _, _, rfl, e, T.cl_Desk, T.na_Desk_greatest, lk_Desk_greatest .., q⟩
theorem pt_Desk_greatest (v_greatest v_counts v_sure v_heard v_forgotten y : V) : putF ("greatest" : Str) y (fs_Desk v_greatest v_counts v_sure v_heard v_forgotten) = fs_Desk y v_counts v_sure v_heard v_forgotten := put_here
theorem obDesk.set_greatest (T : Txt K mg A D) {H : Hp} {a : Addr} {v_greatest v_counts v_sure v_heard v_forgotten : V} (h : obDesk A H a v_greatest v_counts v_sure v_heard v_forgotten) (y : V) {R : Hp → Prop} (q : ∀ H', (∀ b, b ≠ a → H' b = H b) → obDesk A H' a y v_counts v_sure v_heard v_forgotten → R H') :
    ∃ a' C dx fs, V.ref a = .ref a' ∧ H a' = some (.ins C dx fs) ∧ Cls K C ∧ NoAttr K C "greatest" ∧ fs.length < 1000 ∧ R (upd H a' (.ins C dx (putF "greatest" y fs))) :=
  let ⟨dx, e⟩ := h
  ⟨a, A.Desk, dx, _, rfl, e, T.cl_Desk, T.na_Desk_greatest, (by show 5 < 1000; decide), q _ (fun b hb => upd_ne hb) ⟨dx, by rw [upd_same, pt_Desk_greatest]⟩⟩
theorem lk_Desk_counts (v_greatest v_counts v_sure v_heard v_forgotten : V) : (fs_Desk v_greatest v_counts v_sure v_heard v_forgotten).lookup ("counts" : Str) = some v_counts := ((lk_past (by decide +kernel)).trans lk_here)
theorem obDesk.counts (T : Txt K mg A D) {H : Hp} {a : Addr} {v_greatest v_counts v_sure v_heard v_forgotten : V} (h : obDesk A H a v_greatest v_counts v_sure v_heard v_forgotten) {R : V → Prop} (q : R v_counts) : ∃ a' C dx fs v, V.ref a = .ref a' ∧ H a' = some (.ins C dx fs) ∧ Cls K C ∧ NoAttr K C "counts" ∧ fs.lookup ("counts" : Str) = some v ∧ R v :=
  let ⟨dx, e⟩ := h
  ⟨a, A.Desk, dx, _, _, rfl, e, T.cl_Desk, T.na_Desk_counts, lk_Desk_counts .., q⟩
theorem pt_Desk_counts (v_greatest v_counts v_sure v_heard v_forgotten y : V) : putF ("counts" : Str) y (fs_Desk v_greatest v_counts v_sure v_heard v_forgotten) = fs_Desk v_greatest y v_sure v_heard v_forgotten := ((put_past (by decide +kernel)).trans (congrArg _ put_here))
theorem obDesk.set_counts (T : Txt K mg A D) {H : Hp} {a : Addr} {v_greatest v_counts v_sure v_heard v_forgotten : V} (h : obDesk A H a v_greatest v_counts v_sure v_heard v_forgotten) (y : V) {R : Hp → Prop} (q : ∀ H', (∀ b, b ≠ a → H' b = H b) → obDesk A H' a v_greatest y v_sure v_heard v_forgotten → R H') :
    ∃ a' C dx fs, V.ref a = .ref a' ∧ H a' = some (.ins C dx fs) ∧ Cls K C ∧ NoAttr K C "counts" ∧ fs.length < 1000 ∧ R (upd H a' (.ins C dx (putF "counts" y fs))) :=
  let ⟨dx, e⟩ := h
  ⟨a, A.Desk, dx, _, rfl, e, T.cl_Desk, T.na_Desk_counts, (by show 5 < 1000; decide), q _ (fun b hb => upd_ne hb) ⟨dx, by rw [upd_same, pt_Desk_counts]⟩⟩
theorem lk_Desk_sure (v_greatest v_counts v_sure v_heard v_forgotten : V) : (fs_Desk v_greatest v_counts v_sure v_heard v_forgotten).lookup ("sure" : Str) = some v_sure := ((lk_past (by decide +kernel)).trans ((lk_past (by decide +kernel)).trans lk_here))
theorem obDesk.sure (T : Txt K mg A D) {H : Hp} {a : Addr} {v_greatest v_counts v_sure v_heard v_forgotten : V} (h : obDesk A H a v_greatest v_counts v_sure v_heard v_forgotten) {R : V → Prop} (q : R v_sure) : ∃ a' C dx fs v, V.ref a = .ref a' ∧ H a' = some (.ins C dx fs) ∧ Cls K C ∧ NoAttr K C "sure" ∧ fs.lookup ("sure" : Str) = some v ∧ R v :=
  let ⟨dx, e⟩ := h
  ⟨a, A.Desk, dx, _, _, rfl, e, T.cl_Desk, T.na_Desk_sure, lk_Desk_sure .., q⟩
theorem pt_Desk_sure (v_greatest v_counts v_sure v_heard v_forgotten y : V) : putF ("sure" : Str) y (fs_Desk v_greatest v_counts v_sure v_heard v_forgotten) = fs_Desk v_greatest v_counts y v_heard v_forgotten := ((put_past (by decide +kernel)).trans (congrArg _ ((put_past (by decide +kernel)).trans (congrArg _ put_here))))
theorem obDesk.set_sure (T : Txt K mg A D) {H : Hp} {a : Addr} {v_greatest v_counts v_sure v_heard v_forgotten : V} (h : obDesk A H a v_greatest v_counts v_sure v_heard v_forgotten) (y : V) {R : Hp → Prop} (q : ∀ H', (∀ b, b ≠ a → H' b = H b) → obDesk A H' a v_greatest v_counts y v_heard v_forgotten → R H') :
    ∃ a' C dx fs, V.ref a = .ref a' ∧ H a' = some (.ins C dx fs) ∧ Cls K C ∧ NoAttr K C "sure" ∧ fs.length < 1000 ∧ R (upd H a' (.ins C dx (putF "sure" y fs))) :=
  let ⟨dx, e⟩ := h
  ⟨a, A.Desk, dx, _, rfl, e, T.cl_Desk, T.na_Desk_sure, (by show 5 < 1000; decide), q _ (fun b hb => upd_ne hb) ⟨dx, by rw [upd_same, pt_Desk_sure]⟩⟩
theorem lk_Desk_heard (v_greatest v_counts v_sure v_heard v_forgotten : V) : (fs_Desk v_greatest v_counts v_sure v_heard v_forgotten).lookup ("heard" : Str) = some v_heard := ((lk_past (by decide +kernel)).trans ((lk_past (by decide +kernel)).trans ((lk_past (by decide +kernel)).trans lk_here)))
theorem obDesk.heard (T : Txt K mg A D) {H : Hp} {a : Addr} {v_greatest v_counts v_sure v_heard v_forgotten : V} (h : obDesk A H a v_greatest v_counts v_sure v_heard v_forgotten) {R : V → Prop} (q : R v_heard) : ∃ a' C dx fs v, V.ref a = .ref a' ∧ H a' = some (.ins C dx fs) ∧ Cls K C ∧ NoAttr K C "heard" ∧ fs.lookup ("heard" : Str) = some v ∧ R v :=
  let ⟨dx, e⟩ := h
  ⟨a, A.Desk, dx, _, _, rfl, e, T.cl_Desk, T.na_Desk_heard, lk_Desk_heard .., q⟩
theorem pt_Desk_heard (v_greatest v_counts v_sure v_heard v_forgotten y : V) : putF ("heard" : Str) y (fs_Desk v_greatest v_counts v_sure v_heard v_forgotten) = fs_Desk v_greatest v_counts v_sure y v_forgotten := ((put_past (by decide +kernel)).trans (congrArg _ ((put_past (by decide +kernel)).trans (congrArg _ ((put_past (by decide +kernel)).trans (congrArg _ put_here))))))
theorem obDesk.set_heard (T : Txt K mg A D) {H : Hp} {a : Addr} {v_greatest v_counts v_sure v_heard v_forgotten : V} (h : obDesk A H a v_greatest v_counts v_sure v_heard v_forgotten) (y : V) {R : Hp → Prop} (q : ∀ H', (∀ b, b ≠ a → H' b = H b) → obDesk A H' a v_greatest v_counts v_sure y v_forgotten → R H') :
    ∃ a' C dx fs, V.ref a = .ref a' ∧ H a' = some (.ins C dx fs) ∧ Cls K C ∧ NoAttr K C "heard" ∧ fs.length < 1000 ∧ R (upd H a' (.ins C dx (putF "heard" y fs))) :=
  let ⟨dx, e⟩ := h
  ⟨a, A.Desk, dx, _, rfl, e, T.cl_Desk, T.na_Desk_heard, (by show 5 < 1000; decide), q _ (fun b hb => upd_ne hb) ⟨dx, by rw [upd_same, pt_Desk_heard]⟩⟩
theorem lk_Desk_forgotten (v_greatest v_counts v_sure v_heard v_forgotten : V) : (fs_Desk v_greatest v_counts v_sure v_heard v_forgotten).lookup ("forgotten" : Str) = some v_forgotten := ((lk_past (by decide +kernel)).trans ((lk_past (by decide +kernel)).trans ((lk_past (by decide +kernel)).trans ((lk_past (by decide +kernel)).trans lk_here))))
theorem obDesk.forgotten (T : Txt K mg A D) {H : Hp} {a : Addr} {v_greatest v_counts v_sure v_heard v_forgotten : V} (h : obDesk A H a v_greatest v_counts v_sure v_heard v_forgotten) {R : V → Prop} (q : R v_forgotten) : ∃ a' C dx fs v, V.ref a = .ref a' ∧ H a' = some (.ins C dx fs) ∧ Cls K C ∧ NoAttr K C "forgotten" ∧ fs.lookup ("forgotten" : Str) = some v ∧ R v :=
  let ⟨dx, e⟩ := h
  ⟨a, A.Desk, dx, _, _, rfl, e, T.cl_Desk, T.na_Desk_forgotten, lk_Desk_forgotten .., q⟩
theorem pt_Desk_forgotten (v_greatest v_counts v_sure v_heard v_forgotten y : V) : putF ("forgotten" : Str) y (fs_Desk v_greatest v_counts v_sure v_heard v_forgotten) = fs_Desk v_greatest v_counts v_sure v_heard y := ((put_past (by decide +kernel)).trans (congrArg _ ((put_past (by decide +kernel)).trans (congrArg _ ((put_past (by decide +kernel)).trans (congrArg _ ((put_past (by decide +kernel)).trans (congrArg _ put_here))))))))
theorem obDesk.set_forgotten (T : Txt K mg A D) {H : Hp} {a : Addr} {v_greatest v_counts v_sure v_heard v_forgotten : V} (h : obDesk A H a v_greatest v_counts v_sure v_heard v_forgotten) (y : V) {R : Hp → Prop} (q : ∀ H', (∀ b, b ≠ a → H' b = H b) → obDesk A H' a v_greatest v_counts v_sure v_heard y → R H') :
    ∃ a' C dx fs, V.ref a = .ref a' ∧ H a' = some (.ins C dx fs) ∧ Cls K C ∧ NoAttr K C "forgotten" ∧ fs.length < 1000 ∧ R (upd H a' (.ins C dx (putF "forgotten" y fs))) :=
  let ⟨dx, e⟩ := h
  ⟨a, A.Desk, dx, _, rfl, e, T.cl_Desk, T.na_Desk_forgotten, (by show 5 < 1000; decide), q _ (fun b hb => upd_ne hb) ⟨dx, by rw [upd_same, pt_Desk_forgotten]⟩⟩
theorem obDesk.same {H H' : Hp} {a : Addr} {v_greatest v_counts v_sure v_heard v_forgotten : V} (h : obDesk A H a v_greatest v_counts v_sure v_heard v_forgotten) (s : Same H H') : obDesk A H' a v_greatest v_counts v_sure v_heard v_forgotten := let ⟨dx, e⟩ := h; ⟨dx, s _ _ e⟩
theorem obDesk.other {H H' : Hp} {a b : Addr} {v_greatest v_counts v_sure v_heard v_forgotten : V} (h : obDesk A H a v_greatest v_counts v_sure v_heard v_forgotten) (ne : a ≠ b) (s : ∀ c, c ≠ b → H' c = H c) : obDesk A H' a v_greatest v_counts v_sure v_heard v_forgotten := let ⟨dx, e⟩ := h; ⟨dx, by rw [s _ ne]; exact e⟩
def fs_Letter (v_source v_target v_counts v_greatest v_deeds : V) : List (Str × V) := [("source", v_source), ("target", v_target), ("counts", v_counts), ("greatest", v_greatest), ("deeds", v_deeds)]
def obLetter (A : Ad) (H : Hp) (a : Addr) (v_source v_target v_counts v_greatest v_deeds : V) : Prop := ∃ dx, H a = some (.ins A.Letter dx (fs_Letter v_source v_target v_counts v_greatest v_deeds))
theorem lk_Letter_source (v_source v_target v_counts v_greatest v_deeds : V) : (fs_Letter v_source v_target v_counts v_greatest v_deeds).lookup ("source" : Str) = some v_source := lk_here
theorem obLetter.source (T : Txt K mg A D) {H : Hp} {a : Addr} {v_source v_target v_counts v_greatest v_deeds : V} (h : obLetter A H a v_source v_target v_counts v_greatest v_deeds) {R : V → Prop} (q : R v_source) : ∃ a' C dx fs v, V.ref a = .ref a' ∧ H a' = some (.ins C dx fs) ∧ Cls K C ∧ NoAttr K C "source" ∧ fs.lookup ("source" : Str) = some v ∧ R v :=
  let ⟨dx, e⟩ := h
  ⟨a, A.Letter, dx, _, _, rfl, e, T.cl_Letter, T.na_Letter_source, lk_Letter_source .., q⟩
theorem pt_Letter_source (v_source v_target v_counts v_greatest v_deeds y : V) : putF ("source" : Str) y (fs_Letter v_source v_target v_counts v_greatest v_deeds) = fs_Letter y v_target v_counts v_greatest v_deeds := put_here
theorem obLetter.set_source (T : Txt K mg A D) {H : Hp} {a : Addr} {v_source v_target v_counts v_greatest v_deeds : V} (h : obLetter A H a v_source v_target v_counts v_greatest v_deeds) (y : V) {R : Hp → Prop} (q : ∀ H', (∀ b, b ≠ a → H' b = H b) → obLetter A H' a y v_target v_counts v_greatest v_deeds → R H') :
    ∃ a' C dx fs, V.ref a = .ref a' ∧ H a' = some (.ins C dx fs) ∧ Cls K C ∧ NoAttr K C "source" ∧ fs.length < 1000 ∧ R (upd H a' (.ins C dx (putF "source" y fs))) :=
  let ⟨dx, e⟩ := h
  ⟨a, A.Letter, dx, _, rfl, e, T.cl_Letter, T.na_Letter_source, (by show 5 < 1000; decide), q _ (fun b hb => upd_ne hb) ⟨dx, by rw [upd_same, pt_Letter_source]⟩⟩
theorem lk_Letter_target (v_source v_target v_counts v_greatest v_deeds : V) : (fs_Letter v_source v_target v_counts v_greatest v_deeds).lookup ("target" : Str) = some v_target := ((lk_past (by decide +kernel)).trans lk_here)
theorem obLetter.target (T : Txt K mg A D) {H : Hp} {a : Addr} {v_source v_target v_counts v_greatest v_deeds : V} (h : obLetter A H a v_source v_target v_counts v_greatest v_deeds) {R : V → Prop} (q : R v_target) : ∃ a' C dx fs v, V.ref a = .ref a' ∧ H a' = some (.ins C dx fs) ∧ Cls K C ∧ NoAttr K C "target" ∧ fs.lookup ("target" : Str) = some v ∧ R v :=
  let ⟨dx, e⟩ := h
  ⟨a, A.Letter, dx, _, _, rfl, e, T.cl_Letter, T.na_Letter_target, lk_Letter_target .., q⟩
theorem pt_Letter_target (v_source v_target v_counts v_greatest v_deeds y : V) : putF ("target" : Str) y (fs_Letter v_source v_target v_counts v_greatest v_deeds) = fs_Letter v_source y v_counts v_greatest v_deeds := ((put_past (by decide +kernel)).trans (congrArg _ put_here))
theorem obLetter.set_target (T : Txt K mg A D) {H : Hp} {a : Addr} {v_source v_target v_counts v_greatest v_deeds : V} (h : obLetter A H a v_source v_target v_counts v_greatest v_deeds) (y : V) {R : Hp → Prop} (q : ∀ H', (∀ b, b ≠ a → H' b = H b) → obLetter A H' a v_source y v_counts v_greatest v_deeds → R H') :
    ∃ a' C dx fs, V.ref a = .ref a' ∧ H a' = some (.ins C dx fs) ∧ Cls K C ∧ NoAttr K C "target" ∧ fs.length < 1000 ∧ R (upd H a' (.ins C dx (putF "target" y fs))) :=
  let ⟨dx, e⟩ := h
  ⟨a, A.Letter, dx, _, rfl, e, T.cl_Letter, T.na_Letter_target, (by show 5 < 1000; decide), q _ (fun b hb => upd_ne hb) ⟨dx, by rw [upd_same, pt_Letter_target]⟩⟩
theorem lk_Letter_counts (v_source v_target v_counts v_greatest v_deeds : V) : (fs_Letter v_source v_target v_counts v_greatest v_deeds).lookup ("counts" : Str) = some v_counts := ((lk_past (by decide +kernel)).trans ((lk_past (by decide +kernel)).trans lk_here))
theorem obLetter.counts (T : Txt K mg A D) {H : Hp} {a : Addr} {v_source v_target v_counts v_greatest v_deeds : V} (h : obLetter A H a v_source v_target v_counts v_greatest v_deeds) {R : V → Prop} (q : R v_counts) : ∃ a' C dx fs v, V.ref a = .ref a' ∧ H a' = some (.ins C dx fs) ∧ Cls K C ∧ NoAttr K C "counts" ∧ fs.lookup ("counts" : Str) = some v ∧ R v :=
  let ⟨dx, e⟩ := h
  ⟨a, A.Letter, dx, _, _, rfl, e, T.cl_Letter, T.na_Letter_counts, lk_Letter_counts .., q⟩
theorem pt_Letter_counts (v_source v_target v_counts v_greatest v_deeds y : V) : putF ("counts" : Str) y (fs_Letter v_source v_target v_counts v_greatest v_deeds) = fs_Letter v_source v_target y v_greatest v_deeds := ((put_past (by decide +kernel)).trans (congrArg _ ((put_past (by decide +kernel)).trans (congrArg _ put_here))))
theorem obLetter.set_counts (T : Txt K mg A D) {H : Hp} {a : Addr} {v_source v_target v_counts v_greatest v_deeds : V} (h : obLetter A H a v_source v_target v_counts v_greatest v_deeds) (y : V) {R : Hp → Prop} (q : ∀ H', (∀ b, b ≠ a → H' b = H b) → obLetter A H' a v_source v_target y v_greatest v_deeds → R H') :
    ∃ a' C dx fs, V.ref a = .ref a' ∧ H a' = some (.ins C dx fs) ∧ Cls K C ∧ NoAttr K C "counts" ∧ fs.length < 1000 ∧ R (upd H a' (.ins C dx (putF "counts" y fs))) :=
  let ⟨dx, e⟩ := h
  ⟨a, A.Letter, dx, _, rfl, e, T.cl_Letter, T.na_Letter_counts, (by show 5 < 1000; decide), q _ (fun b hb => upd_ne hb) ⟨dx, by rw [upd_same, pt_Letter_counts]⟩⟩
theorem lk_Letter_greatest (v_source v_target v_counts v_greatest v_deeds : V) : (fs_Letter v_source v_target v_counts v_greatest v_deeds).lookup ("greatest" : Str) = some v_greatest := ((lk_past (by decide +kernel)).trans ((lk_past (by decide +kernel)).trans ((lk_past (by decide +kernel)).trans lk_here)))
theorem obLetter.greatest (T : Txt K mg A D) {H : Hp} {a : Addr} {v_source v_target v_counts v_greatest v_deeds : V} (h : obLetter A H a v_source v_target v_counts v_greatest v_deeds) {R : V → Prop} (q : R v_greatest) : ∃ a' C dx fs v, V.ref a = .ref a' ∧ H a' = some (.ins C dx fs) ∧ Cls K C ∧ NoAttr K C "greatest" ∧ fs.lookup ("greatest" : Str) = some v ∧ R v :=
  let ⟨dx, e⟩ := h
  ⟨a, A.Letter, dx, _, _, rfl, e, T.cl_Letter, T.na_Letter_greatest, lk_Letter_greatest .., q⟩
theorem pt_Letter_greatest (v_source v_target v_counts v_greatest v_deeds y : V) : putF ("greatest" : Str) y (fs_Letter v_source v_target v_counts v_greatest v_deeds) = fs_Letter v_source v_target v_counts y v_deeds := ((put_past (by decide +kernel)).trans (congrArg _ ((put_past (by decide +kernel)).trans (congrArg _ ((put_past (by decide +kernel)).trans (congrArg _ put_here))))))
theorem obLetter.set_greatest (T : Txt K mg A D) {H : Hp} {a : Addr} {v_source v_target v_counts v_greatest v_deeds : V} (h : obLetter A H a v_source v_target v_counts v_greatest v_deeds) (y : V) {R : Hp → Prop} (q : ∀ H', (∀ b, b ≠ a → H' b = H b) → obLetter A H' a v_source v_target v_counts y v_deeds → R H') :
    ∃ a' C dx fs, V.ref a = .ref a' ∧ H a' = some (.ins C dx fs) ∧ Cls K C ∧ NoAttr K C "greatest" ∧ fs.length < 1000 ∧ R (upd H a' (.ins C dx (putF "greatest" y fs))) :=
  let ⟨dx, e⟩ := h
  ⟨a, A.Letter, dx, _, rfl, e, T.cl_Letter, T.na_Letter_greatest, (by show 5 < 1000; decide), q _ (fun b hb => upd_ne hb) ⟨dx, by rw [upd_same, pt_Letter_greatest]⟩⟩
theorem lk_Letter_deeds (v_source v_target v_counts v_greatest v_deeds : V) : (fs_Letter v_source v_target v_counts v_greatest v_deeds).lookup ("deeds" : Str) = some v_deeds := ((lk_past (by decide +kernel)).trans ((lk_past (by decide +kernel)).trans ((lk_past (by decide +kernel)).trans ((lk_past (by decide +kernel)).trans lk_here))))
theorem obLetter.deeds (T : Txt K mg A D) {H : Hp} {a : Addr} {v_source v_target v_counts v_greatest v_deeds : V} (h : obLetter A H a v_source v_target v_counts v_greatest v_deeds) {R : V → Prop} (q : R v_deeds) : ∃ a' C dx fs v, V.ref a = .ref a' ∧ H a' = some (.ins C dx fs) ∧ Cls K C ∧ NoAttr K C "deeds" ∧ fs.lookup ("deeds" : Str) = some v ∧ R v :=
  let ⟨dx, e⟩ := h
  ⟨a, A.Letter, dx, _, _, rfl, e, T.cl_Letter, T.na_Letter_deeds, lk_Letter_deeds .., q⟩
theorem pt_Letter_deeds (v_source v_target v_counts v_greatest v_deeds y : V) : putF ("deeds" : Str) y (fs_Letter v_source v_target v_counts v_greatest v_deeds) = fs_Letter v_source v_target v_counts v_greatest y := ((put_past (by decide +kernel)).trans (congrArg _ ((put_past (by decide +kernel)).trans (congrArg _ ((put_past (by decide +kernel)).trans (congrArg _ ((put_past (by decide +kernel)).trans (congrArg _ put_here))))))))
theorem obLetter.set_deeds (T : Txt K mg A D) {H : Hp} {a : Addr} {v_source v_target v_counts v_greatest v_deeds : V} (h : obLetter A H a v_source v_target v_counts v_greatest v_deeds) (y : V) {R : Hp → Prop} (q : ∀ H', (∀ b, b ≠ a → H' b = H b) → obLetter A H' a v_source v_target v_counts v_greatest y → R H') :
    ∃ a' C dx fs, V.ref a = .ref a' ∧ H a' = some (.ins C dx fs) ∧ Cls K C ∧ NoAttr K C "deeds" ∧ fs.length < 1000 ∧ R (upd H a' (.ins C dx (putF "deeds" y fs))) :=
  let ⟨dx, e⟩ := h
  ⟨a, A.Letter, dx, _, rfl, e, T.cl_Letter, T.na_Letter_deeds, (by show 5 < 1000; decide), q _ (fun b hb => upd_ne hb) ⟨dx, by rw [upd_same, pt_Letter_deeds]⟩⟩
theorem obLetter.same {H H' : Hp} {a : Addr} {v_source v_target v_counts v_greatest v_deeds : V} (h : obLetter A H a v_source v_target v_counts v_greatest v_deeds) (s : Same H H') : obLetter A H' a v_source v_target v_counts v_greatest v_deeds := let ⟨dx, e⟩ := h; ⟨dx, s _ _ e⟩
theorem obLetter.other {H H' : Hp} {a b : Addr} {v_source v_target v_counts v_greatest v_deeds : V} (h : obLetter A H a v_source v_target v_counts v_greatest v_deeds) (ne : a ≠ b) (s : ∀ c, c ≠ b → H' c = H c) : obLetter A H' a v_source v_target v_counts v_greatest v_deeds := let ⟨dx, e⟩ := h; ⟨dx, by rw [s _ ne]; exact e⟩
def sp_Letter_init (A : Ad) : Sp := fun vs H Q _ => ∃ (p dx : Addr) (v_source v_target v_counts v_greatest v_deeds : V), vs = [.ref p, v_source, v_target, v_counts, v_greatest, v_deeds] ∧ H p = some (.ins A.Letter dx []) ∧ ∀ H', (∀ b, b ≠ p → H' b = H b) → obLetter A H' p v_source v_target v_counts v_greatest v_deeds → Q .non H'
theorem ok_Letter_init (T : Txt K mg A D) : FnOk P w K mg base CX0 1 A.f_Letter_init D.d_Letter_init ["self", "source", "target", "counts", "greatest", "deeds"] (sp_Letter_init A) := by
  refine T.f_Letter_init.ok sc_Letter_init (fun vs H Q E h => ?_) (fun cdv ar outer s H vs Q E hr h => ⟨_, (pss_cons (ps_fld (pv 0) (pv 1) (by rfl))
    (pss_cons (ps_fld (pv 0) (pv 2) (by rfl))
    (pss_cons (ps_fld (pv 0) (pv 3) (by rfl))
    (pss_cons (ps_fld (pv 0) (pv 4) (by rfl))
    (pss_one (ps_fld (pv 0) (pv 5) (by rfl))))))), ?_⟩)
  · obtain ⟨p, dx, _, _, _, _, _, rfl, _⟩ := h
    rfl
  · obtain ⟨p, dx, v_source, v_target, v_counts, v_greatest, v_deeds, rfl, hp, k⟩ := h
    refine ⟨_, rfl, _, rfl, p, A.Letter, dx, _, rfl, hp, T.cl_Letter, T.na_Letter_source, (by show 0 < 1000; decide), ?_⟩
    refine ⟨_, rfl, _, rfl, p, A.Letter, dx, _, rfl, upd_same, T.cl_Letter, T.na_Letter_target, (by show 1 < 1000; decide), ?_⟩
    refine ⟨_, rfl, _, rfl, p, A.Letter, dx, _, rfl, upd_same, T.cl_Letter, T.na_Letter_counts, (by show 2 < 1000; decide), ?_⟩
    refine ⟨_, rfl, _, rfl, p, A.Letter, dx, _, rfl, upd_same, T.cl_Letter, T.na_Letter_greatest, (by show 3 < 1000; decide), ?_⟩
    refine ⟨_, rfl, _, rfl, p, A.Letter, dx, _, rfl, upd_same, T.cl_Letter, T.na_Letter_deeds, (by show 4 < 1000; decide), ?_⟩
    refine k _ (fun b hb => ?_) ⟨dx, ?_⟩
    · simp only [upd_ne hb]
    · rw [upd_same]
      refine congrArg (fun q => some (HO.ins A.Letter dx q)) ?_
      first | rfl | (unfold fs_Letter; simp [putF]; done)
theorem mk_Letter {A : Ad} {H : Hp} {v_source v_target v_counts v_greatest v_deeds : V} {R : Addr → Hp → Prop} {E : XK} (q : ∀ x H', H x = none → Same H H' → obLetter A H' x v_source v_target v_counts v_greatest v_deeds → R x H') : ∀ x dx, H x = none → H dx = none → dx ≠ x → sp_Letter_init A (.ref x :: ([v_source, v_target, v_counts, v_greatest, v_deeds] ++ [])) (upd (upd H dx (.own x)) x (.ins A.Letter dx [])) (fun v H2 => v = .non ∧ R x H2) E := by
  intro x dx nx nd ne
  refine ⟨x, dx, _, _, _, _, _, rfl, upd_same, fun H' k e => ⟨rfl, q x H' nx (fun b o hb => ?_) e⟩⟩
  rw [k b (ne_of_none hb nx), upd_ne (ne_of_none hb nx), upd_ne (ne_of_none hb nd)]
  exact hb
def fs_House (v_desks v_deeds v_letters v_next_thing : V) : List (Str × V) := [("desks", v_desks), ("deeds", v_deeds), ("letters", v_letters), ("next_thing", v_next_thing)]
def obHouse (A : Ad) (H : Hp) (a : Addr) (v_desks v_deeds v_letters v_next_thing : V) : Prop := ∃ dx, H a = some (.ins A.House dx (fs_House v_desks v_deeds v_letters v_next_thing))
theorem lk_House_desks (v_desks v_deeds v_letters v_next_thing : V) : (fs_House v_desks v_deeds v_letters v_next_thing).lookup ("desks" : Str) = some v_desks := lk_here
theorem obHouse.desks (T : Txt K mg A D) {H : Hp} {a : Addr} {v_desks v_deeds v_letters v_next_thing : V} (h : obHouse A H a v_desks v_deeds v_letters v_next_thing) {R : V → Prop} (q : R v_desks) : ∃ a' C dx fs v, V.ref a = .ref a' ∧ H a' = some (.ins C dx fs) ∧ Cls K C ∧ NoAttr K C "desks" ∧ fs.lookup ("desks" : Str) = some v ∧ R v :=
  let ⟨dx, e⟩ := h
  ⟨a, A.House, dx, _, _, rfl, e, T.cl_House, T.na_House_desks, lk_House_desks .., q⟩
theorem pt_House_desks (v_desks v_deeds v_letters v_next_thing y : V) : putF ("desks" : Str) y (fs_House v_desks v_deeds v_letters v_next_thing) = fs_House y v_deeds v_letters v_next_thing := put_here
theorem obHouse.set_desks (T : Txt K mg A D) {H : Hp} {a : Addr} {v_desks v_deeds v_letters v_next_thing : V} (h : obHouse A H a v_desks v_deeds v_letters v_next_thing) (y : V) {R : Hp → Prop} (q : ∀ H', (∀ b, b ≠ a → H' b = H b) → obHouse A H' a y v_deeds v_letters v_next_thing → R H') :
    ∃ a' C dx fs, V.ref a = .ref a' ∧ H a' = some (.ins C dx fs) ∧ Cls K C ∧ NoAttr K C "desks" ∧ fs.length < 1000 ∧ R (upd H a' (.ins C dx (putF "desks" y fs))) :=
  let ⟨dx, e⟩ := h
  ⟨a, A.House, dx, _, rfl, e, T.cl_House, T.na_House_desks, (by show 4 < 1000; decide), q _ (fun b hb => upd_ne hb) ⟨dx, by rw [upd_same, pt_House_desks]⟩⟩
theorem lk_House_deeds (v_desks v_deeds v_letters v_next_thing : V) : (fs_House v_desks v_deeds v_letters v_next_thing).lookup ("deeds" : Str) = some v_deeds := ((lk_past (by decide +kernel)).trans lk_here)
theorem obHouse.deeds (T : Txt K mg A D) {H : Hp} {a : Addr} {v_desks v_deeds v_letters v_next_thing : V} (h : obHouse A H a v_desks v_deeds v_letters v_next_thing) {R : V → Prop} (q : R v_deeds) : ∃ a' C dx fs v, V.ref a = .ref a' ∧ H a' = some (.ins C dx fs) ∧ Cls K C ∧ NoAttr K C "deeds" ∧ fs.lookup ("deeds" : Str) = some v ∧ R v :=
  let ⟨dx, e⟩ := h
  ⟨a, A.House, dx, _, _, rfl, e, T.cl_House, T.na_House_deeds, lk_House_deeds .., q⟩
theorem pt_House_deeds (v_desks v_deeds v_letters v_next_thing y : V) : putF ("deeds" : Str) y (fs_House v_desks v_deeds v_letters v_next_thing) = fs_House v_desks y v_letters v_next_thing := ((put_past (by decide +kernel)).trans (congrArg _ put_here))
theorem obHouse.set_deeds (T : Txt K mg A D) {H : Hp} {a : Addr} {v_desks v_deeds v_letters v_next_thing : V} (h : obHouse A H a v_desks v_deeds v_letters v_next_thing) (y : V) {R : Hp → Prop} (q : ∀ H', (∀ b, b ≠ a → H' b = H b) → obHouse A H' a v_desks y v_letters v_next_thing → R H') :
    ∃ a' C dx fs, V.ref a = .ref a' ∧ H a' = some (.ins C dx fs) ∧ Cls K C ∧ NoAttr K C "deeds" ∧ fs.length < 1000 ∧ R (upd H a' (.ins C dx (putF "deeds" y fs))) :=
  let ⟨dx, e⟩ := h
  ⟨a, A.House, dx, _, rfl, e, T.cl_House, T.na_House_deeds, (by show 4 < 1000; decide), q _ (fun b hb => upd_ne hb) ⟨dx, by rw [upd_same, pt_House_deeds]⟩⟩
theorem lk_House_letters (v_desks v_deeds v_letters v_next_thing : V) : (fs_House v_desks v_deeds v_letters v_next_thing).lookup ("letters" : Str) = some v_letters := ((lk_past (by decide +kernel)).trans ((lk_past (by decide +kernel)).trans lk_here))
theorem obHouse.letters (T : Txt K mg A D) {H : Hp} {a : Addr} {v_desks v_deeds v_letters v_next_thing : V} (h : obHouse A H a v_desks v_deeds v_letters v_next_thing) {R : V → Prop} (q : R v_letters) : ∃ a' C dx fs v, V.ref a = .ref a' ∧ H a' = some (.ins C dx fs) ∧ Cls K C ∧ NoAttr K C "letters" ∧ fs.lookup ("letters" : Str) = some v ∧ R v :=
  let ⟨dx, e⟩ := h
  ⟨a, A.House, dx, _, _, rfl, e, T.cl_House, T.na_House_letters, lk_House_letters .., q⟩
theorem pt_House_letters (v_desks v_deeds v_letters v_next_thing y : V) : putF ("letters" : Str) y (fs_House v_desks v_deeds v_letters v_next_thing) = fs_House v_desks v_deeds y v_next_thing := ((put_past (by decide +kernel)).trans (congrArg _ ((put_past (by decide +kernel)).trans (congrArg _ put_here))))
theorem obHouse.set_letters (T : Txt K mg A D) {H : Hp} {a : Addr} {v_desks v_deeds v_letters v_next_thing : V} (h : obHouse A H a v_desks v_deeds v_letters v_next_thing) (y : V) {R : Hp → Prop} (q : ∀ H', (∀ b, b ≠ a → H' b = H b) → obHouse A H' a v_desks v_deeds y v_next_thing → R H') :
    ∃ a' C dx fs, V.ref a = .ref a' ∧ H a' = some (.ins C dx fs) ∧ Cls K C ∧ NoAttr K C "letters" ∧ fs.length < 1000 ∧ R (upd H a' (.ins C dx (putF "letters" y fs))) :=
  let ⟨dx, e⟩ := h
  ⟨a, A.House, dx, _, rfl, e, T.cl_House, T.na_House_letters, (by show 4 < 1000; decide), q _ (fun b hb => upd_ne hb) ⟨dx, by rw [upd_same, pt_House_letters]⟩⟩
theorem lk_House_next_thing (v_desks v_deeds v_letters v_next_thing : V) : (fs_House v_desks v_deeds v_letters v_next_thing).lookup ("next_thing" : Str) = some v_next_thing := ((lk_past (by decide +kernel)).trans ((lk_past (by decide +kernel)).trans ((lk_past (by decide +kernel)).trans lk_here)))
theorem obHouse.next_thing (T : Txt K mg A D) {H : Hp} {a : Addr} {v_desks v_deeds v_letters v_next_thing : V} (h : obHouse A H a v_desks v_deeds v_letters v_next_thing) {R : V → Prop} (q : R v_next_thing) : ∃ a' C dx fs v, V.ref a = .ref a' ∧ H a' = some (.ins C dx fs) ∧ Cls K C ∧ NoAttr K C "next_thing" ∧ fs.lookup ("next_thing" : Str) = some v ∧ R v :=
  let ⟨dx, e⟩ := h
  ⟨a, A.House, dx, _, _, rfl, e, T.cl_House, T.na_House_next_thing, lk_House_next_thing .., q⟩
theorem pt_House_next_thing (v_desks v_deeds v_letters v_next_thing y : V) : putF ("next_thing" : Str) y (fs_House v_desks v_deeds v_letters v_next_thing) = fs_House v_desks v_deeds v_letters y := ((put_past (by decide +kernel)).trans (congrArg _ ((put_past (by decide +kernel)).trans (congrArg _ ((put_past (by decide +kernel)).trans (congrArg _ put_here))))))
theorem obHouse.set_next_thing (T : Txt K mg A D) {H : Hp} {a : Addr} {v_desks v_deeds v_letters v_next_thing : V} (h : obHouse A H a v_desks v_deeds v_letters v_next_thing) (y : V) {R : Hp → Prop} (q : ∀ H', (∀ b, b ≠ a → H' b = H b) → obHouse A H' a v_desks v_deeds v_letters y → R H') :
    ∃ a' C dx fs, V.ref a = .ref a' ∧ H a' = some (.ins C dx fs) ∧ Cls K C ∧ NoAttr K C "next_thing" ∧ fs.length < 1000 ∧ R (upd H a' (.ins C dx (putF "next_thing" y fs))) :=
  let ⟨dx, e⟩ := h
  ⟨a, A.House, dx, _, rfl, e, T.cl_House, T.na_House_next_thing, (by show 4 < 1000; decide), q _ (fun b hb => upd_ne hb) ⟨dx, by rw [upd_same, pt_House_next_thing]⟩⟩
theorem obHouse.same {H H' : Hp} {a : Addr} {v_desks v_deeds v_letters v_next_thing : V} (h : obHouse A H a v_desks v_deeds v_letters v_next_thing) (s : Same H H') : obHouse A H' a v_desks v_deeds v_letters v_next_thing := let ⟨dx, e⟩ := h; ⟨dx, s _ _ e⟩
theorem obHouse.other {H H' : Hp} {a b : Addr} {v_desks v_deeds v_letters v_next_thing : V} (h : obHouse A H a v_desks v_deeds v_letters v_next_thing) (ne : a ≠ b) (s : ∀ c, c ≠ b → H' c = H c) : obHouse A H' a v_desks v_deeds v_letters v_next_thing := let ⟨dx, e⟩ := h; ⟨dx, by rw [s _ ne]; exact e⟩
def fs_Outline (v_deeds v_held v_places : V) : List (Str × V) := [("deeds", v_deeds), ("held", v_held), ("places", v_places)]
def obOutline (A : Ad) (H : Hp) (a : Addr) (v_deeds v_held v_places : V) : Prop := ∃ dx, H a = some (.ins A.Outline dx (fs_Outline v_deeds v_held v_places))
theorem lk_Outline_deeds (v_deeds v_held v_places : V) : (fs_Outline v_deeds v_held v_places).lookup ("deeds" : Str) = some v_deeds := lk_here
theorem obOutline.deeds (T : Txt K mg A D) {H : Hp} {a : Addr} {v_deeds v_held v_places : V} (h : obOutline A H a v_deeds v_held v_places) {R : V → Prop} (q : R v_deeds) : ∃ a' C dx fs v, V.ref a = .ref a' ∧ H a' = some (.ins C dx fs) ∧ Cls K C ∧ NoAttr K C "deeds" ∧ fs.lookup ("deeds" : Str) = some v ∧ R v :=
  let ⟨dx, e⟩ := h
  ⟨a, A.Outline, dx, _, _, rfl, e, T.cl_Outline, T.na_Outline_deeds, lk_Outline_deeds .., q⟩
theorem pt_Outline_deeds (v_deeds v_held v_places y : V) : putF ("deeds" : Str) y (fs_Outline v_deeds v_held v_places) = fs_Outline y v_held v_places := put_here
theorem obOutline.set_deeds (T : Txt K mg A D) {H : Hp} {a : Addr} {v_deeds v_held v_places : V} (h : obOutline A H a v_deeds v_held v_places) (y : V) {R : Hp → Prop} (q : ∀ H', (∀ b, b ≠ a → H' b = H b) → obOutline A H' a y v_held v_places → R H') :
    ∃ a' C dx fs, V.ref a = .ref a' ∧ H a' = some (.ins C dx fs) ∧ Cls K C ∧ NoAttr K C "deeds" ∧ fs.length < 1000 ∧ R (upd H a' (.ins C dx (putF "deeds" y fs))) :=
  let ⟨dx, e⟩ := h
  ⟨a, A.Outline, dx, _, rfl, e, T.cl_Outline, T.na_Outline_deeds, (by show 3 < 1000; decide), q _ (fun b hb => upd_ne hb) ⟨dx, by rw [upd_same, pt_Outline_deeds]⟩⟩
theorem lk_Outline_held (v_deeds v_held v_places : V) : (fs_Outline v_deeds v_held v_places).lookup ("held" : Str) = some v_held := ((lk_past (by decide +kernel)).trans lk_here)
theorem obOutline.held (T : Txt K mg A D) {H : Hp} {a : Addr} {v_deeds v_held v_places : V} (h : obOutline A H a v_deeds v_held v_places) {R : V → Prop} (q : R v_held) : ∃ a' C dx fs v, V.ref a = .ref a' ∧ H a' = some (.ins C dx fs) ∧ Cls K C ∧ NoAttr K C "held" ∧ fs.lookup ("held" : Str) = some v ∧ R v :=
  let ⟨dx, e⟩ := h
  ⟨a, A.Outline, dx, _, _, rfl, e, T.cl_Outline, T.na_Outline_held, lk_Outline_held .., q⟩
theorem pt_Outline_held (v_deeds v_held v_places y : V) : putF ("held" : Str) y (fs_Outline v_deeds v_held v_places) = fs_Outline v_deeds y v_places := ((put_past (by decide +kernel)).trans (congrArg _ put_here))
theorem obOutline.set_held (T : Txt K mg A D) {H : Hp} {a : Addr} {v_deeds v_held v_places : V} (h : obOutline A H a v_deeds v_held v_places) (y : V) {R : Hp → Prop} (q : ∀ H', (∀ b, b ≠ a → H' b = H b) → obOutline A H' a v_deeds y v_places → R H') :
    ∃ a' C dx fs, V.ref a = .ref a' ∧ H a' = some (.ins C dx fs) ∧ Cls K C ∧ NoAttr K C "held" ∧ fs.length < 1000 ∧ R (upd H a' (.ins C dx (putF "held" y fs))) :=
  let ⟨dx, e⟩ := h
  ⟨a, A.Outline, dx, _, rfl, e, T.cl_Outline, T.na_Outline_held, (by show 3 < 1000; decide), q _ (fun b hb => upd_ne hb) ⟨dx, by rw [upd_same, pt_Outline_held]⟩⟩
theorem lk_Outline_places (v_deeds v_held v_places : V) : (fs_Outline v_deeds v_held v_places).lookup ("places" : Str) = some v_places := ((lk_past (by decide +kernel)).trans ((lk_past (by decide +kernel)).trans lk_here))
theorem obOutline.places (T : Txt K mg A D) {H : Hp} {a : Addr} {v_deeds v_held v_places : V} (h : obOutline A H a v_deeds v_held v_places) {R : V → Prop} (q : R v_places) : ∃ a' C dx fs v, V.ref a = .ref a' ∧ H a' = some (.ins C dx fs) ∧ Cls K C ∧ NoAttr K C "places" ∧ fs.lookup ("places" : Str) = some v ∧ R v :=
  let ⟨dx, e⟩ := h
  ⟨a, A.Outline, dx, _, _, rfl, e, T.cl_Outline, T.na_Outline_places, lk_Outline_places .., q⟩
theorem pt_Outline_places (v_deeds v_held v_places y : V) : putF ("places" : Str) y (fs_Outline v_deeds v_held v_places) = fs_Outline v_deeds v_held y := ((put_past (by decide +kernel)).trans (congrArg _ ((put_past (by decide +kernel)).trans (congrArg _ put_here))))
theorem obOutline.set_places (T : Txt K mg A D) {H : Hp} {a : Addr} {v_deeds v_held v_places : V} (h : obOutline A H a v_deeds v_held v_places) (y : V) {R : Hp → Prop} (q : ∀ H', (∀ b, b ≠ a → H' b = H b) → obOutline A H' a v_deeds v_held y → R H') :
    ∃ a' C dx fs, V.ref a = .ref a' ∧ H a' = some (.ins C dx fs) ∧ Cls K C ∧ NoAttr K C "places" ∧ fs.length < 1000 ∧ R (upd H a' (.ins C dx (putF "places" y fs))) :=
  let ⟨dx, e⟩ := h
  ⟨a, A.Outline, dx, _, rfl, e, T.cl_Outline, T.na_Outline_places, (by show 3 < 1000; decide), q _ (fun b hb => upd_ne hb) ⟨dx, by rw [upd_same, pt_Outline_places]⟩⟩
theorem obOutline.same {H H' : Hp} {a : Addr} {v_deeds v_held v_places : V} (h : obOutline A H a v_deeds v_held v_places) (s : Same H H') : obOutline A H' a v_deeds v_held v_places := let ⟨dx, e⟩ := h; ⟨dx, s _ _ e⟩
theorem obOutline.other {H H' : Hp} {a b : Addr} {v_deeds v_held v_places : V} (h : obOutline A H a v_deeds v_held v_places) (ne : a ≠ b) (s : ∀ c, c ≠ b → H' c = H c) : obOutline A H' a v_deeds v_held v_places := let ⟨dx, e⟩ := h; ⟨dx, by rw [s _ ne]; exact e⟩
end
end Ho
end

section
set_option Elab.async false
set_option maxRecDepth 100000
set_option maxHeartbeats 4000000
/-! Deeds in the heap; comprehensions; the small defs. -/
namespace Ho
open PySem PySem.W PyProof.Rows L2
def enc : Option Nat → Int
  | none => -1
  | some s => s
theorem enc_inj {a b : Option Nat} (h : enc a = enc b) : a = b := by
  cases a <;> cases b <;> simp only [enc] at h
  · rfl
  · omega
  · omega
  · congr 1; omega
def sideI (r : Bool) : Int := if r = true then 1 else 0
def ActAt (A : Ad) (H : Hp) (r : Addr) : Sq36.Act → Prop
  | .put x u s right => obPut A H r (.int x) (.int u) (.int (enc s)) (.int (sideI right))
  | .tell x f v => obTelling A H r (.int x) (.int f) (.int v)
  | .clear x f => obClearing A H r (.int x) (.int f)
  | .add x v => obAdding A H r (.int x) (.int v)
  | .back i => obTakingBack A H r (.int i)
  | .again i => obDoingAgain A H r (.int i)
def nums (c : List Nat) : List V := c.map fun (n : Nat) => V.int (n : Int)
/-- a deed in the heap; M: what may be written -/
structure DeedAt (A : Ad) (M : Addr → Prop) (H : Hp) (a : Addr) (d : Sq36.Deed) (sw r : Addr) : Prop where
  ob : obDeed A H a (.int d.id) (.int d.stamp.hand) (.int d.n) (.int d.stamp.count) (.ref sw) (.ref r)
  saw : H sw = some (.lst (nums d.after))
  act : ActAt A H r d.act
  na : ¬ M a
  nsw : ¬ M sw
  nr : ¬ M r
def Dd (A : Ad) (M : Addr → Prop) (ad : Nat → Addr) (H : Hp) (l : List Sq36.Deed) : Prop := ∀ d ∈ l, ∃ sw r, DeedAt A M H (ad d.id) d sw r
def rf (ad : Nat → Addr) (d : Sq36.Deed) : V := .ref (ad d.id)
def rfs (ad : Nat → Addr) (l : List Sq36.Deed) : List V := l.map (rf ad)
/-- what stands where nothing may be written stays -/
def Keep (M : Addr → Prop) (H H' : Hp) : Prop := ∀ b o, ¬ M b → H b = some o → H' b = some o
theorem Keep.of {M : Addr → Prop} {H H' : Hp} (s : Same H H') : Keep M H H' := fun b o _ e => s b o e
theorem ActAt.keep {A : Ad} {H H' : Hp} {r : Addr} {a : Sq36.Act} (h : ActAt A H r a) (k : ∀ o, H r = some o → H' r = some o) : ActAt A H' r a := by
  cases a <;> (obtain ⟨dx, e⟩ := h; exact ⟨dx, k _ e⟩)
theorem DeedAt.keep {A : Ad} {M : Addr → Prop} {H H' : Hp} {a sw r : Addr} {d : Sq36.Deed} (h : DeedAt A M H a d sw r) (k : Keep M H H') : DeedAt A M H' a d sw r where
  ob := let ⟨dx, e⟩ := h.ob; ⟨dx, k _ _ h.na e⟩
  saw := k _ _ h.nsw h.saw
  act := h.act.keep fun o e => k _ o h.nr e
  na := h.na
  nsw := h.nsw
  nr := h.nr
theorem Dd.keep {A : Ad} {M : Addr → Prop} {ad : Nat → Addr} {H H' : Hp} {l : List Sq36.Deed} (h : Dd A M ad H l) (k : Keep M H H') : Dd A M ad H' l := fun d hd =>
  let ⟨sw, r, q⟩ := h d hd
  ⟨sw, r, q.keep k⟩
theorem Dd.same {A : Ad} {M : Addr → Prop} {ad : Nat → Addr} {H H' : Hp} {l : List Sq36.Deed} (h : Dd A M ad H l) (s : Same H H') : Dd A M ad H' l := h.keep (.of s)
theorem Dd.sub {A : Ad} {M : Addr → Prop} {ad : Nat → Addr} {H : Hp} {l m : List Sq36.Deed} (h : Dd A M ad H l) (s : ∀ d ∈ m, d ∈ l) : Dd A M ad H m := fun d hd => h d (s d hd)
theorem same_upd {H : Hp} {a : Addr} {o : HO} (h : H a = none) : Same H (upd H a o) := fun b u e => by rw [upd_ne (ne_of_none e h)]; exact e
theorem same_upd2 {H H' : Hp} {a : Addr} {o : HO} (s : Same H H') (h : H a = none) : Same H (upd H' a o) := fun b u e => by rw [upd_ne (ne_of_none e h)]; exact s b u e
theorem small_of {n : Nat} (h : n ≤ 2000) : n < sizeLine := Nat.lt_of_le_of_lt h (by decide)
section
variable {X : Cx} {K : PySem.W.Frag}
theorem pe_fldK {e : Expr} {ta : TE} {f : Str} {pos : Pos} (hK : X.K = K) (he : PE X e ta) (hb : attributeBase e f X.env (eval e X.env) = eval e X.env) : PE X (.Attribute e f pos) (tFld K ta f) := hK ▸ pe_fld he hb
theorem isiK (hK : X.K = K) : CallR X (.builtin "isinstance") (rIsi K) := hK ▸ call_isi
theorem ixK (hK : X.K = K) : IxR X (rIxL K) := hK ▸ ix_list
theorem ixTK (hK : X.K = K) : IxR X (rIxT K) := hK ▸ ix_tup
theorem isiTK (hK : X.K = K) : CallR X (.builtin "isinstance") (rIsiT K) := hK ▸ call_isiT
end
/-- a comprehension over a list whose tests and items change nothing -/
theorem lc_pick {K : PySem.W.Frag} {a : Addr} {α : Type} {l : List α} {f : α → V} {i : Nat} {tt : TT} {te : TE} {vs : List Nat} {σ : L2.St} {H1 : Hp} {D : Addr} {Qd : Hp → Prop} (p : α → Bool) (y : α → V) (hD : H1 D = none) (hx : SqL K H1 a (l.map f)) (hl : l.length ≤ 2000)
    (ht : ∀ x ∈ l, ∀ (H : Hp) (R : Bool → Hp → Prop), Same H1 H → (∀ H', Same H H' → R (p x) H') → tt ((wipe σ vs).set i (some (f x))) H R)
    (he : ∀ x ∈ l, p x = true → ∀ (H : Hp) (R : VK), Same H1 H → (∀ H', Same H H' → R (y x) H') → te ((wipe σ vs).set i (some (f x))) H R)
    (hd : ∀ H, Same H1 H → H D = some (.lst ((l.filter p).map y)) → Qd H) (hw : ∀ x, wipe ((wipe σ vs).set i (some x)) vs = wipe σ vs := by intro x; rfl) :
    ∃ W : Nat → Nat → Hp → Prop, (∃ m, W 0 m (upd H1 D (.lst []))) ∧ ∀ i' m H, W i' m H →
      ((Itl K a).stop i' H ∧ Qd H) ∨ ((Itl K a).go i' H ∧ ∃ Nx : Hp → Prop, (∀ H', Nx H' → ∃ m', m' < m ∧ W (i' + 1) m' H') ∧ ∀ x H', (Itl K a).yld i' H x H' → gName i x (wipe σ vs) H' fun σ2 H2 => wipe σ2 vs = wipe σ vs ∧ tt σ2 H2 fun b H3 =>
        if b = true then te σ2 H3 fun y H4 => ∃ acc, H4 D = some (.lst acc) ∧ acc.length < sizeLine ∧ Nx (upd H4 D (.lst (acc ++ [y]))) else Nx H3) := by
  refine lc_list (K := K) (a := a) (xs := l.map f) (fun j H => Same H1 H ∧ H D = some (.lst (((l.take j).filter p).map y))) ⟨same_upd hD, by rw [upd_same]; rfl⟩ (fun j H _ q => q.1.seq hx) (fun j v H hj q => ⟨hw v, ?_⟩) fun H q => hd H q.1 (by rw [q.2, List.length_map, List.take_length])
  obtain ⟨x, hjx, rfl⟩ : ∃ x, l[j]? = some x ∧ v = f x := by
    rw [List.getElem?_map] at hj
    cases e : l[j]? with
    | none => rw [e] at hj; cases hj
    | some d => rw [e] at hj; exact ⟨d, rfl, (Option.some.inj hj).symm⟩
  have hm := List.mem_of_getElem? hjx
  have tk : l.take (j + 1) = l.take j ++ [x] := by rw [List.take_add_one, hjx]; rfl
  refine ht x hm H _ q.1 fun H' s' => ?_
  by_cases c : p x = true
  · rw [if_pos c]
    refine he x hm c H' _ (q.1.trans s') fun H2 s2 => ⟨_, s2 _ _ (s' _ _ q.2), ?_, same_upd2 (q.1.trans (s'.trans s2)) hD, ?_⟩
    · refine small_of (Nat.le_trans ?_ hl)
      rw [List.length_map]
      exact Nat.le_trans (List.length_filter_le _ _) (by rw [List.length_take]; omega)
    · rw [upd_same, tk, List.filter_append, List.filter_cons_of_pos c, List.map_append]
      rfl
  · rw [if_neg c]
    refine ⟨q.1.trans s', ?_⟩
    rw [s' _ _ q.2, tk, List.filter_append, List.filter_cons_of_neg c, List.filter_nil, List.append_nil]
section
variable {P : Program} {w : World} {K : PySem.W.Frag} {mg : Str → Option Value} {base : Heap} {A : Ad} {D : Fd}
/-! ### stamp, is_change, is_in_reach -/
def sp_stamp (A : Ad) : Sp := fun vs H Q _ => ∃ (a sw r : Addr) (M : Addr → Prop) (d : Sq36.Deed), vs = [.ref a] ∧ DeedAt A M H a d sw r ∧ ∀ (H' : Hp) (t : Addr), Same H H' → H' t = some (.tup [.int d.stamp.count, .int d.stamp.hand]) → Q (.ref t) H'
theorem ok_stamp (T : Txt K mg A D) : FnOk P w K mg base CX0 1 A.f_stamp D.d_stamp ["deed"] (sp_stamp A) := by
  refine T.f_stamp.ok sc_stamp (fun vs H Q E h => ?_) (fun cdv ar outer s H vs Q E hr h => ⟨_, (pss_one (ps_ret (pe_tup (pa_cons (pe_fld (pv 0) (by rfl)) (pa_cons (pe_fld (pv 0) (by rfl)) pa_nil))))), ?_⟩)
  · obtain ⟨a, sw, r, M, d, rfl, _⟩ := h; rfl
  · obtain ⟨a, sw, r, M, d, rfl, h1, k⟩ := h
    exact ⟨_, rfl, h1.ob.count T ⟨_, rfl, h1.ob.desk T ⟨by show 2 ≤ sizeLine; decide, fun p np => k _ p (same_upd np) upd_same⟩⟩⟩
def isTaking : Sq36.Act → Bool
  | .back _ => true
  | .again _ => true
  | _ => false
def isPutA : Sq36.Act → Bool
  | .put .. => true
  | _ => false
def isBackA : Sq36.Act → Bool
  | .back _ => true
  | _ => false
theorem of_taking (d : Sq36.Deed) : d.of_ = none ↔ isTaking d.act = false := by
  unfold Sq36.Deed.of_ isTaking
  cases d.act <;> simp
/-- the class of an act, by its object -/
theorem ty_act (T : Txt K mg A D) {H : Hp} {r : Addr} {a : Sq36.Act} (h : ActAt A H r a) : ∃ t, TyX K H (.ref r) t ∧ PySem.W.kitAny K t [.ref A.TakingBack, .ref A.DoingAgain] = some (isTaking a) ∧
    PySem.W.kitOne K t (.ref A.Put) = some (isPutA a) ∧ PySem.W.kitOne K t (.ref A.TakingBack) = some (isBackA a) := by
  cases a with
  | put x u s b => obtain ⟨dx, e⟩ := h; exact ⟨_, T.ty_Put _ _ _ _ e, T.is_Put_TakingBack_DoingAgain, T.is_Put_Put, T.is_Put_TakingBack⟩
  | tell x f v => obtain ⟨dx, e⟩ := h; exact ⟨_, T.ty_Telling _ _ _ _ e, T.is_Telling_TakingBack_DoingAgain, T.is_Telling_Put, T.is_Telling_TakingBack⟩
  | clear x f => obtain ⟨dx, e⟩ := h; exact ⟨_, T.ty_Clearing _ _ _ _ e, T.is_Clearing_TakingBack_DoingAgain, T.is_Clearing_Put, T.is_Clearing_TakingBack⟩
  | add x v => obtain ⟨dx, e⟩ := h; exact ⟨_, T.ty_Adding _ _ _ _ e, T.is_Adding_TakingBack_DoingAgain, T.is_Adding_Put, T.is_Adding_TakingBack⟩
  | back i => obtain ⟨dx, e⟩ := h; exact ⟨_, T.ty_TakingBack _ _ _ _ e, T.is_TakingBack_TakingBack_DoingAgain, T.is_TakingBack_Put, T.is_TakingBack_TakingBack⟩
  | again i => obtain ⟨dx, e⟩ := h; exact ⟨_, T.ty_DoingAgain _ _ _ _ e, T.is_DoingAgain_TakingBack_DoingAgain, T.is_DoingAgain_Put, T.is_DoingAgain_TakingBack⟩
def isTellA : Sq36.Act → Bool
  | .tell .. => true
  | _ => false
def isClearA : Sq36.Act → Bool
  | .clear .. => true
  | _ => false
def isAddA : Sq36.Act → Bool
  | .add .. => true
  | _ => false
theorem ty_act2 (T : Txt K mg A D) {H : Hp} {r : Addr} {a : Sq36.Act} (h : ActAt A H r a) : ∃ t, TyX K H (.ref r) t ∧ PySem.W.kitAny K t [.ref A.Telling, .ref A.Clearing] = some (isTellA a || isClearA a) ∧
    PySem.W.kitOne K t (.ref A.Telling) = some (isTellA a) ∧ PySem.W.kitOne K t (.ref A.Adding) = some (isAddA a) := by
  cases a with
  | put x u s b => obtain ⟨dx, e⟩ := h; exact ⟨_, T.ty_Put _ _ _ _ e, T.is_Put_Telling_Clearing, T.is_Put_Telling, T.is_Put_Adding⟩
  | tell x f v => obtain ⟨dx, e⟩ := h; exact ⟨_, T.ty_Telling _ _ _ _ e, T.is_Telling_Telling_Clearing, T.is_Telling_Telling, T.is_Telling_Adding⟩
  | clear x f => obtain ⟨dx, e⟩ := h; exact ⟨_, T.ty_Clearing _ _ _ _ e, T.is_Clearing_Telling_Clearing, T.is_Clearing_Telling, T.is_Clearing_Adding⟩
  | add x v => obtain ⟨dx, e⟩ := h; exact ⟨_, T.ty_Adding _ _ _ _ e, T.is_Adding_Telling_Clearing, T.is_Adding_Telling, T.is_Adding_Adding⟩
  | back i => obtain ⟨dx, e⟩ := h; exact ⟨_, T.ty_TakingBack _ _ _ _ e, T.is_TakingBack_Telling_Clearing, T.is_TakingBack_Telling, T.is_TakingBack_Adding⟩
  | again i => obtain ⟨dx, e⟩ := h; exact ⟨_, T.ty_DoingAgain _ _ _ _ e, T.is_DoingAgain_Telling_Clearing, T.is_DoingAgain_Telling, T.is_DoingAgain_Adding⟩
def sp_is_change (A : Ad) : Sp := fun vs H Q _ => ∃ (a sw r : Addr) (M : Addr → Prop) (d : Sq36.Deed), vs = [.ref a] ∧ DeedAt A M H a d sw r ∧ ∀ (H' : Hp), Same H H' → Q (.bl (!isTaking d.act)) H'
theorem ok_is_change (T : Txt K mg A D) : FnOk P w K mg base CX0 1 A.f_is_change D.d_is_change ["deed"] (sp_is_change A) := by
  refine T.f_is_change.ok sc_is_change (fun vs H Q E h => ?_) (fun cdv ar outer s H vs Q E hr h => ⟨_, (pss_one (ps_ret (pe_not (pe_callB call_isiT (by rfl) T.n_isinstance (by decide +kernel) (pa_cons (pe_fld (pv 0) (by rfl)) (pa_cons (pe_tup (pa_cons (pe_glob (v := .ref A.TakingBack) (by rfl) T.c_TakingBack rfl) (pa_cons (pe_glob (v := .ref A.DoingAgain) (by rfl) T.c_DoingAgain rfl) pa_nil))) pa_nil)))))), ?_⟩)
  · obtain ⟨a, sw, r, M, d, rfl, _⟩ := h; rfl
  · obtain ⟨a, sw, r, M, d, rfl, h1, k⟩ := h
    refine ⟨_, rfl, h1.ob.act T ⟨by show 2 ≤ sizeLine; decide, fun p np => ?_⟩⟩
    obtain ⟨t, h2, h3, _⟩ := ty_act T (h1.act.keep (H' := upd H p (.tup [.ref A.TakingBack, .ref A.DoingAgain])) fun o e => same_upd np _ _ e)
    exact ⟨_, p, _, t, _, _, rfl, upd_same, .cons (.own _) (.cons (.own _) .nil), h2, h3, _, rfl, k _ (same_upd np)⟩
def sp_is_in_reach (A : Ad) : Sp := fun vs H Q _ => ∃ (c : Int) (a sw r : Addr) (M : Addr → Prop) (d : Sq36.Deed), vs = [.int c, .ref a] ∧ DeedAt A M H a d sw r ∧ Q (.bl (decide (c ≤ (d.stamp.count : Int) + 20))) H
theorem ok_is_in_reach (T : Txt K mg A D) : FnOk P w K mg base CX0 1 A.f_is_in_reach D.d_is_in_reach ["count", "deed"] (sp_is_in_reach A) := by
  refine T.f_is_in_reach.ok sc_is_in_reach (fun vs H Q E h => ?_) (fun cdv ar outer s H vs Q E hr h => ⟨_, (pss_one (ps_ret (pe_cmpR op_le (pv 0) (pe_op op_add (pe_fld (pv 1) (by rfl)) (pe_glob (v := .int (20)) (by rfl) (Classical.choose_spec T.g_REACH) ⟨_, rfl⟩)) (nomark _)))), ?_⟩)
  · obtain ⟨c, a, sw, r, M, d, rfl, _⟩ := h; rfl
  · obtain ⟨c, a, sw, r, M, d, rfl, h1, k⟩ := h
    exact ⟨_, rfl, _, rfl, h1.ob.count T ⟨_, _, rfl, rfl, _, _, rfl, rfl, k⟩⟩
end
end Ho
end

section
set_option Elab.async false
set_option maxRecDepth 100000
set_option maxHeartbeats 4000000
/-! holding -/
namespace Ho
open PySem PySem.W PyProof.Rows L2
theorem rfs_get {ad : Nat → Addr} {l : List Sq36.Deed} {i : Nat} {x : V} (h : (rfs ad l)[i]? = some x) : ∃ d, l[i]? = some d ∧ x = rf ad d := by
  unfold rfs at h
  rw [List.getElem?_map] at h
  cases e : l[i]? with
  | none => rw [e] at h; cases h
  | some d => rw [e] at h; exact ⟨d, rfl, (Option.some.inj h).symm⟩
theorem rfs_mem {ad : Nat → Addr} {l : List Sq36.Deed} {x : V} (h : x ∈ rfs ad l) : ∃ d ∈ l, x = rf ad d := by
  obtain ⟨d, hd, e⟩ := List.mem_map.mp h
  exact ⟨d, hd, e.symm⟩
theorem rfs_len (ad : Nat → Addr) (l : List Sq36.Deed) : (rfs ad l).length = l.length := List.length_map ..
theorem take_snoc {α : Type} {l : List α} {i : Nat} {x : α} (h : l[i]? = some x) : l.take (i + 1) = l.take i ++ [x] := by
  rw [List.take_add_one, h]; rfl
theorem take_split {α : Type} {l : List α} {i : Nat} {x : α} (h : l[i]? = some x) : l = l.take i ++ x :: l.drop (i + 1) := by
  obtain ⟨hi, e⟩ := List.getElem?_eq_some_iff.mp h
  rw [← e, ← List.drop_eq_getElem_cons hi, List.take_append_drop]
section
variable {P : Program} {w : World} {K : PySem.W.Frag} {mg : Str → Option Value} {base : Heap} {A : Ad} {D : Fd}
def sp_holding (A : Ad) : Sp := fun vs H Q _ => ∃ (a : Addr) (l : List Sq36.Deed) (ad : Nat → Addr) (M : Addr → Prop), vs = [.ref a] ∧ H a = some (.lst (rfs ad l)) ∧ Dd A M ad H l ∧ Wf l ∧
  ∀ (H' : Hp) (p : Addr), Same H H' → H p = none → H' p = some (.lst (rfs ad (Sq36.held l))) → Q (.ref p) H'
theorem of_some {d : Sq36.Deed} (h : isTaking d.act = true) : ∃ i, d.of_ = some i ∧ (d.act = .back i ∨ d.act = .again i) := by
  unfold Sq36.Deed.of_
  cases e : d.act <;> rw [e] at h <;> simp only [isTaking, Bool.false_eq_true] at h
  · exact ⟨_, rfl, .inl rfl⟩
  · exact ⟨_, rfl, .inr rfl⟩
theorem isBack_eq (d : Sq36.Deed) : d.isBack = isBackA d.act := by
  unfold Sq36.Deed.isBack isBackA
  cases d.act <;> rfl
theorem ok_holding (T : Txt K mg A D) : FnOk P w K mg base CX0 2 A.f_holding D.d_holding ["deeds"] (sp_holding A) := by
  refine T.f_holding.ok sc_holding (fun vs H Q E h => ?_) (fun cdv ar outer s H vs Q E hr h => have hu := hu_of hr; ⟨_, (pss_cons (ps_set (i := 1) sc_holding.nd rfl (Or.inl rfl) pe_dnewK)
    (pss_cons (ps_set (i := 2) sc_holding.nd rfl (Or.inr rfl) pe_dnewK)
    (pss_cons (ps_for PassesOwn.never rfl (pi_list (pv 0)) (pg_name (i := 3) sc_holding.nd rfl (Or.inl rfl))
      (pss_one (ps_if (pt_val (pe_call (ok_is_change T) (by exact hr.mono (by decide)) (by rfl) T.m_is_change T.f_is_change.kp T.b_is_change .nil pass0 (pa_cons (pv 3) pa_nil)))
      (pss_one (ps_dput (by exact hu) (pv 1) (pe_fld (pv 3) (by rfl)) (pv 3) (by rfl)))
      (pss_one (ps_if (pt_val (pe_call (ok_is_in_reach T) (by exact hr.mono (by decide)) (by rfl) T.m_is_in_reach T.f_is_in_reach.kp T.b_is_in_reach .nil pass0 (pa_cons (pe_fld (pv 3) (by rfl)) (pa_cons (pe_dget (by exact hu) (pv 1) (pe_fld (pe_fld (pv 3) (by rfl)) (by rfl)) (by exact fun _ _ => rfl)) pa_nil))))
      (pss_one (ps_dput (by exact hu) (pv 2) (pe_fld (pe_fld (pv 3) (by rfl)) (by rfl)) (pe_callB call_isi (by rfl) T.n_isinstance (by decide +kernel) (pa_cons (pe_fld (pv 3) (by rfl)) (pa_cons (pe_glob (v := .ref A.TakingBack) (by rfl) T.c_TakingBack rfl) pa_nil))) (by rfl)))
      pss_nil)))))
    (pss_one (ps_ret (pe_lc (own := [("deed", 3)]) (g := gName 3)  (by rfl) sc_holding.nd (pi_list (pv 0)) (blkOk_by (own := [("deed", 3)]) (N := N_holding) (sc := defScope s_holding) (by decide +kernel)) (fun _ _ _ _ _ => pg_name (i := 3) sc_holding.nd rfl (Or.inl rfl)) (fun _ _ _ _ _ => pts_one (by exact (pt_not (pt_val (pe_dget2 (by exact hu) (pv 2) (pe_fldK (K := K) (by rfl) (pv 3) (by rfl)) pe_bl (by exact ⟨rfl, rfl, rfl, rfl⟩)))))) (fun _ _ _ _ _ => (by exact (pv 3))))))))), ?_⟩)
  · obtain ⟨a, l, ad, M, rfl, _⟩ := h; rfl
  · obtain ⟨a, l, ad, M, rfl, ha, dd, wf, k⟩ := h
    -- changes = {}; taken = {}
    intro c nc
    intro t nt
    have hct : c ≠ t := fun e => by rw [e, upd_same] at nt <;> cases nt
    have nt0 : H t = none := by rw [upd_ne (Ne.symm hct)] at nt; exact nt
    have s0 : Same H (upd (upd H c (.dK [])) t (.dK [])) := same_upd2 (same_upd nc) nt0
    refine ⟨_, rfl, a, rfl, ⟨_, .of (s0 _ _ ha)⟩, for_list (K := K) (a := a) (xs := rfs ad l) (fun i σ H' => ∃ (v : Option V) (kc kt : List (Key × V)), σ = [some (.ref a), some (.ref c), some (.ref t), v] ∧ Same H H' ∧ H' c = some (.dK kc) ∧ H' t = some (.dK kt) ∧
        kc.length ≤ i ∧ kt.length ≤ i ∧ (∀ d ∈ l.take i, d.of_ = none → valV kc (Sum.inl (d.id : Int)) = some (rf ad d)) ∧ ∀ d ∈ l, valV kt (Sum.inl (d.id : Int)) = (taken (l.take i) d).map V.bl)
      ⟨none, [], [], rfl, s0, (by rw [upd_ne hct, upd_same]), upd_same, Nat.le_refl _, Nat.le_refl _, (fun d hd => by simp at hd), fun d _ => rfl⟩ (fun i σ H' _ ⟨_, _, _, _, s5, _⟩ => s5.seq (.of ha)) ?_ ?_⟩
    · rintro i x σ H' hx ⟨v, kc, kt, rfl, s5, hc, ht, lc, lt, vc, vt⟩
      obtain ⟨d, hd, rfl⟩ := rfs_get hx
      have hm := List.mem_of_getElem? hd
      have tk := take_snoc hd
      have hi : i < 100 := Nat.lt_of_lt_of_le (List.getElem?_eq_some_iff.mp hd).1 wf.len
      obtain ⟨sw, r, h1⟩ := (dd.same s5) d hm
      refine ⟨_, rfl, _, sw, r, M, d, rfl, h1, fun H2 s2 => ⟨_, rfl, ?_⟩⟩
      have h2 := h1.keep (.of s2)
      cases e : isTaking d.act with
      | false =>
        refine iteT ?_
        refine ⟨_, rfl, _, rfl, _, rfl, h2.ob.number T ⟨c, _, rfl, DPut.k (k := Sum.inl (d.id : Int)) (s2 _ _ hc) (small_of (by omega)), ?_⟩⟩
        have nof := (of_taking d).mpr e
        refine ⟨some (rf ad d), _, kt, rfl, same_upd2 (s5.trans s2) nc, upd_same, (by rw [upd_ne (Ne.symm hct)]; exact s2 _ _ ht), Nat.le_trans (length_putK ..) (by omega), by omega, fun d' hd' no => ?_, fun d' hd' => ?_⟩
        · rw [valV_put]
          split
          · rename_i z
            have z' : d'.id = d.id := by injection z with z; omega
            show some (V.ref (ad d.id)) = some (V.ref (ad d'.id))
            rw [z']
          · rename_i z
            rw [tk] at hd'
            rcases List.mem_append.mp hd' with hd' | hd'
            · exact vc d' hd' no
            · exact absurd (by rw [List.mem_singleton.mp hd']) z
        · rw [vt d' hd', tk, taken_snoc, if_neg]
          unfold touches
          rw [nof]
          simp
      | true =>
        obtain ⟨j, ho, hact⟩ := of_some e
        obtain ⟨d0, hd0, hid, hn0, _⟩ := wf.target _ d _ (take_split hd) j ho
        have hm0 : d0 ∈ l := List.mem_of_mem_take hd0
        have hv := vc d0 hd0 hn0
        obtain ⟨sw0, r0, h0⟩ := (dd.same (s5.trans s2)) d0 hm0
        have actj : ∀ {H3 : Hp} {R : V → Prop}, ActAt A H3 r d.act → R (.int (j : Int)) → ∃ a' C dx fs v, V.ref r = .ref a' ∧ H3 a' = some (.ins C dx fs) ∧ Cls K C ∧ NoAttr K C "deed" ∧ fs.lookup ("deed" : Str) = some v ∧ R v := by
          intro H3 R ha hR
          rcases hact with z | z <;> rw [z] at ha
          · exact obTakingBack.deed T ha hR
          · exact obDoingAgain.deed T ha hR
        refine iteF ?_
        refine ⟨_, rfl, h2.ob.count T ⟨_, rfl, _, rfl, h2.ob.act T (actj h2.act ⟨c, rf ad d0, rfl, ?_, ?_⟩)⟩⟩
        · have q := DGet.k (k := Sum.inl (j : Int)) (s2 _ _ hc)
          rw [← hid, hv] at q
          rw [← hid]
          exact q
        refine ⟨_, _, sw0, r0, M, d0, rfl, h0, _, rfl, ?_⟩
        refine ite2 (fun z => ?_) fun z => ?_
        · obtain ⟨ty, q1, _, _, q2⟩ := ty_act T h2.act
          refine ⟨_, rfl, h2.ob.act T ⟨_, _, ty, _, _, rfl, .own _, q1, q2, _, rfl, _, rfl, h2.ob.act T (actj h2.act ⟨t, _, rfl, DPut.k (k := Sum.inl (j : Int)) (s2 _ _ ht) (small_of (by omega)), ?_⟩)⟩⟩
          have le := of_decide_eq_true z
          refine ⟨some (rf ad d), kc, _, rfl, same_upd2 (s5.trans s2) nt0, (by rw [upd_ne hct]; exact s2 _ _ hc), upd_same, by omega, Nat.le_trans (length_putK ..) (by omega), fun d' hd' no => ?_, fun d' hd' => ?_⟩
          · rw [tk] at hd'
            rcases List.mem_append.mp hd' with hd' | hd'
            · exact vc d' hd' no
            · rw [List.mem_singleton.mp hd', ho] at no; cases no
          · rw [valV_put, tk, taken_snoc]
            by_cases c1 : d'.id = j
            · have e1 : d' = d0 := wf.uniq hd' hm0 (by rw [c1, hid])
              subst e1
              have tch : touches d' d = true := by
                unfold touches
                rw [ho, c1, Bool.and_eq_true]
                exact ⟨beq_self_eq_true _, decide_eq_true (by show d.stamp.count ≤ d'.stamp.count + 20; omega)⟩
              rw [if_pos (by rw [c1]), if_pos tch, isBack_eq]
              rfl
            · rw [if_neg (fun z => by injection z with z; exact c1 (by omega)), if_neg, vt d' hd']
              unfold touches
              rw [ho]
              simp
              intro z; exact absurd z.symm c1
        · have nle : ¬ ((d.stamp.count : Int) ≤ (d0.stamp.count : Int) + 20) := fun q => z (decide_eq_true q)
          refine ⟨some (rf ad d), kc, kt, rfl, s5.trans s2, s2 _ _ hc, s2 _ _ ht, by omega, by omega, fun d' hd' no => ?_, fun d' hd' => ?_⟩
          · rw [tk] at hd'
            rcases List.mem_append.mp hd' with hd' | hd'
            · exact vc d' hd' no
            · rw [List.mem_singleton.mp hd', ho] at no; cases no
          · rw [vt d' hd', tk, taken_snoc, if_neg]
            intro tch
            unfold touches at tch
            rw [ho, Bool.and_eq_true] at tch
            have z1 : j = d'.id := Option.some.inj (eq_of_beq tch.1)
            have z2 : d.stamp.count ≤ d'.stamp.count + 20 := of_decide_eq_true tch.2
            have e1 : d' = d0 := wf.uniq hd' hm0 (by rw [← z1, hid])
            subst e1
            omega
    · rintro σ H' ⟨v, kc, kt, rfl, s5, hc, ht, lc, lt, vc, vt⟩
      rw [rfs_len, List.take_length] at vt
      refine ⟨_, rfl, a, rfl, ⟨_, .of (s5 _ _ ha)⟩, fun p np => ?_⟩
      have dd5 := dd.same s5
      refine lc_pick (K := K) (a := a) (l := l) (f := rf ad) (i := 3) (Sq36.holds l) (rf ad) np (.of (s5 _ _ ha)) (by have := wf.len; omega) (fun d hd H6 R s6 kR => ?_) (fun d hd _ H6 R s6 kR => ⟨_, rfl, kR H6 (Same.refl _)⟩) fun H6 s6 hp => k H6 p (s5.trans s6) (s5.free np) hp
      obtain ⟨sw, r, h1⟩ := (dd5.same s6) d hd
      refine ⟨_, rfl, t, rfl, .inl ⟨kt, .inl (s6 _ _ ht)⟩, _, rfl, h1.ob.number T ⟨_, DGet.k (k := Sum.inl (d.id : Int)) (s6 _ _ ht), (taken l d).getD false, ?_, ?_⟩⟩
      · rw [vt d hd]
        cases taken l d <;> rfl
      · show R (!(taken l d).getD false) H6
        rw [← holds_taken]
        exact kR H6 (Same.refl _)
end
end Ho
end

section
set_option Elab.async false
set_option maxRecDepth 100000
set_option maxHeartbeats 4000000
/-! puts_under, spots_under, has_right, right_behind -/
namespace Ho
open PySem PySem.W PyProof.Rows L2
theorem dec_int (a b : Nat) : decide (V.int (a : Int) = V.int (b : Int)) = (a == b) := by
  by_cases e : a = b
  · subst e; simp
  · rw [decide_eq_false (fun z => e (by injection z with z; omega))]
    exact (beq_eq_false_iff_ne.mpr e).symm
theorem dec_enc (a b : Option Nat) : decide (V.int (enc a) = V.int (enc b)) = (a == b) := by
  by_cases e : a = b
  · subst e; simp
  · rw [decide_eq_false (fun z => e (by injection z with z; exact enc_inj z))]
    exact (beq_eq_false_iff_ne.mpr e).symm
theorem dec_side (a b : Bool) : decide (V.int (sideI a) = V.int (sideI b)) = (a == b) := by
  cases a <;> cases b <;> rfl
section
variable {P : Program} {w : World} {K : PySem.W.Frag} {mg : Str → Option Value} {base : Heap} {A : Ad} {D : Fd}
def sp_puts_under (A : Ad) : Sp := fun vs H Q _ => ∃ (a : Addr) (u : Nat) (l : List Sq36.Deed) (ad : Nat → Addr) (M : Addr → Prop), vs = [.ref a, .int (u : Int)] ∧ H a = some (.lst (rfs ad l)) ∧ Dd A M ad H l ∧ l.length ≤ 100 ∧
  ∀ (H' : Hp) (p : Addr), Same H H' → H p = none → H' p = some (.lst (rfs ad (l.filter (isPut u)))) → Q (.ref p) H'
theorem ok_puts_under (T : Txt K mg A D) : FnOk P w K mg base CX0 1 A.f_puts_under D.d_puts_under ["deeds", "under"] (sp_puts_under A) := by
  refine T.f_puts_under.ok sc_puts_under (fun vs H Q E h => ?_) (fun cdv ar outer s H vs Q E hr h => have hu := hu_of hr; ⟨_, (pss_one (ps_ret (pe_lc (own := [("deed", 2)]) (g := gName 2)  (by rfl) sc_puts_under.nd (pi_list (pv 0)) (blkOk_by (own := [("deed", 2)]) (N := N_puts_under) (sc := defScope s_puts_under) (by decide +kernel)) (fun _ _ _ _ _ => pg_name (i := 2) sc_puts_under.nd rfl (Or.inl rfl)) (fun _ _ _ _ _ => pts_one (by exact (PW.pt (pw_and (pt_val (pe_callB (isiK (K := K) (by rfl)) (by rfl) T.n_isinstance (by decide +kernel) (pa_cons (pe_fldK (K := K) (by rfl) (pv 2) (by rfl)) (pa_cons (pe_glob (v := .ref A.Put) (by rfl) T.c_Put rfl) pa_nil)))) (pw_and1 (pt_cmpR op_eq (pe_fldK (K := K) (by rfl) (pe_fldK (K := K) (by rfl) (pv 2) (by rfl)) (by rfl)) (pv 1) (nomark _))))))) (fun _ _ _ _ _ => (by exact (pv 2)))))), ?_⟩)
  · obtain ⟨a, u, l, ad, M, rfl, _⟩ := h; rfl
  · obtain ⟨a, u, l, ad, M, rfl, ha, dd, len, k⟩ := h
    refine ⟨_, rfl, a, rfl, ⟨_, .of ha⟩, fun p np => ?_⟩
    refine lc_pick (K := K) (a := a) (l := l) (f := rf ad) (i := 2) (isPut u) (rf ad) np (.of ha) (by omega) (fun d hd H6 R s6 kR => ?_) (fun d hd _ H6 R s6 kR => ⟨_, rfl, kR H6 (Same.refl _)⟩) fun H6 s6 hp => k H6 p s6 np hp
    obtain ⟨sw, r, h1⟩ := (dd.same s6) d hd
    obtain ⟨ty, q1, _, q2, _⟩ := ty_act T h1.act
    refine ⟨_, rfl, h1.ob.act T ⟨_, _, ty, _, _, rfl, .own _, q1, q2, _, rfl, ?_⟩⟩
    have h3 := h1.act
    have kR' := kR H6 (Same.refl _)
    cases e : d.act <;> rw [e] at h3 <;> simp only [isPut, e] at kR'
    · refine iteT ⟨_, rfl, h1.ob.act T (obPut.under T h3 ⟨_, rfl, rfl, _, rfl, ?_⟩)⟩
      rw [dec_int]
      exact kR'
    all_goals exact iteF kR'
/-! ### spots_under -/
/-- a dict of lists of deeds -/
def SideAt (ad : Nat → Addr) (H : Hp) (kvs : List (Key × V)) (o : Option Nat) (L : List Sq36.Deed) : Prop :=
  (valV kvs (Sum.inl (enc o)) = none ∧ L = []) ∨ ∃ b, valV kvs (Sum.inl (enc o)) = some (.ref b) ∧ H b = some (.lst (rfs ad L))
theorem SideAt.get {ad : Nat → Addr} {H : Hp} {kvs : List (Key × V)} {o : Option Nat} {L : List Sq36.Deed} {p : Addr} (s : SideAt ad H kvs o L) (np : H p = none) :
    ∃ b, (valV kvs (Sum.inl (enc o))).getD (.ref p) = .ref b ∧ upd H p (.lst []) b = some (.lst (rfs ad L)) := by
  rcases s with ⟨h, rfl⟩ | ⟨b, h, e⟩
  · exact ⟨p, by rw [h]; rfl, by rw [upd_same]; rfl⟩
  · exact ⟨b, by rw [h]; rfl, by rw [upd_ne (ne_of_none e np)]; exact e⟩
theorem SideAt.same {ad : Nat → Addr} {H H' : Hp} {kvs : List (Key × V)} {o : Option Nat} {L : List Sq36.Deed} (s : SideAt ad H kvs o L) (k : ∀ b zs, H b = some (.lst zs) → H' b = some (.lst zs)) : SideAt ad H' kvs o L := by
  rcases s with h | ⟨b, h, e⟩
  · exact .inl h
  · exact .inr ⟨b, h, k _ _ e⟩
def sp_spots_under (A : Ad) : Sp := fun vs H Q _ => ∃ (a : Addr) (u : Nat) (l : List Sq36.Deed) (ad : Nat → Addr) (M : Addr → Prop), vs = [.ref a, .int (u : Int)] ∧ H a = some (.lst (rfs ad l)) ∧ Dd A M ad H l ∧ Wf l ∧
  ∀ (H' : Hp) (p : Addr), Same H H' → H' p = some (.lst (rfs ad (Sq36.spots l u))) → Q (.ref p) H'
theorem put_of {u : Nat} {d : Sq36.Deed} (h : isPut u d = true) : ∃ x o r, d.act = .put x u o r := by
  unfold isPut at h
  cases e : d.act <;> rw [e] at h <;> simp only at h
  · rename_i x u' o r
    have := eq_of_beq h
    subst this
    exact ⟨x, o, r, rfl⟩
  all_goals cases h
theorem isAt_put {u x : Nat} {o o' : Option Nat} {r r' : Bool} {d : Sq36.Deed} (h : d.act = .put x u o r) : isAt u o' r' d = (o == o' && r == r') := by
  unfold isAt
  rw [h]
  simp
set_option maxHeartbeats 8000000 in
theorem ok_spots_under (T : Txt K mg A D) : FnOk P w K mg base CX0 2 A.f_spots_under D.d_spots_under ["deeds", "under"] (sp_spots_under A) := by
  refine T.f_spots_under.ok sc_spots_under (fun vs H Q E h => ?_) (fun cdv ar outer s H vs Q E hr h => have hu := hu_of hr; ⟨_, (pss_cons (ps_set (i := 2) sc_spots_under.nd rfl (Or.inl rfl) pe_dnewK)
    (pss_cons (ps_set (i := 3) sc_spots_under.nd rfl (Or.inl rfl) pe_dnewK)
    (pss_cons (ps_for PassesOwn.never rfl (pi_reversed (by rfl) T.n_reversed (pa_cons (pe_call (ok_puts_under T) (by exact hr.mono (by decide)) (by rfl) T.m_puts_under T.f_puts_under.kp T.b_puts_under .nil pass0 (pa_cons (pv 0) (pa_cons (pv 1) pa_nil))) pa_nil)) (pg_name (i := 4) sc_spots_under.nd rfl (Or.inl rfl))
      (pss_cons (ps_set (i := 5) sc_spots_under.nd rfl (Or.inl rfl) (pe_op op_cat (pe_op op_cat (pe_dget2 (by exact hu) (pv 2) (pe_fld (pv 4) (by rfl)) (pe_lst pa_nil) (by exact ⟨rfl, rfl, rfl, rfl⟩)) (pe_lst (pa_cons (pv 4) pa_nil))) (pe_dget2 (by exact hu) (pv 3) (pe_fld (pv 4) (by rfl)) (pe_lst pa_nil) (by exact ⟨rfl, rfl, rfl, rfl⟩))))
    (pss_one (ps_if (pt_cmpR op_eq (pe_fld (pe_fld (pv 4) (by rfl)) (by rfl)) (pe_glob (v := .int (0)) (by rfl) (Classical.choose_spec T.g_LEFT) ⟨_, rfl⟩) (nomark _))
      (pss_one (ps_dput (by exact hu) (pv 2) (pe_fld (pe_fld (pv 4) (by rfl)) (by rfl)) (pe_op op_cat (pv 5) (pe_dget2 (by exact hu) (pv 2) (pe_fld (pe_fld (pv 4) (by rfl)) (by rfl)) (pe_lst pa_nil) (by exact ⟨rfl, rfl, rfl, rfl⟩))) (by rfl)))
      (pss_one (ps_dput (by exact hu) (pv 3) (pe_fld (pe_fld (pv 4) (by rfl)) (by rfl)) (pe_op op_cat (pv 5) (pe_dget2 (by exact hu) (pv 3) (pe_fld (pe_fld (pv 4) (by rfl)) (by rfl)) (pe_lst pa_nil) (by exact ⟨rfl, rfl, rfl, rfl⟩))) (by rfl)))))))
    (pss_one (ps_ret (pe_dget2 (by exact hu) (pv 3) (pe_glob (v := .int (-1)) (by rfl) (Classical.choose_spec T.g_BEGINNING) ⟨_, rfl⟩) (pe_lst pa_nil) (by exact ⟨rfl, rfl, rfl, rfl⟩))))))), ?_⟩)
  · obtain ⟨a, u, l, ad, M, rfl, _⟩ := h; rfl
  · obtain ⟨a, u, l, ad, M, rfl, ha, dd, wf, k⟩ := h
    intro lf nlf
    intro rg nrg
    have hne : lf ≠ rg := fun e => by rw [e, upd_same] at nrg; cases nrg
    have nrg0 : H rg = none := by rw [upd_ne (Ne.symm hne)] at nrg; exact nrg
    have s0 : Same H (upd (upd H lf (.dK [])) rg (.dK [])) := same_upd2 (same_upd nlf) nrg0
    refine ⟨_, rfl, _, rfl, a, u, l, ad, M, rfl, s0 _ _ ha, dd.same s0, wf.len, fun H1 qp s1 nqp hq => ?_⟩
    obtain ⟨q, eq⟩ : ∃ q, q = l.filter (isPut u) := ⟨_, rfl⟩
    rw [← eq] at hq
    have qsub : ∀ d ∈ q, d ∈ l ∧ isPut u d = true := fun d hd => by rw [eq] at hd; exact List.mem_filter.mp hd
    have qids : (q.map (·.id)).Nodup := by rw [eq]; exact List.Nodup.sublist (List.Sublist.map _ List.filter_sublist) wf.ids
    have qord : Ordered q := by rw [eq]; exact wf.ordered.puts u
    have qlen : q.length ≤ 100 := by rw [eq]; exact Nat.le_trans (List.length_filter_le _ _) wf.len
    refine ⟨qp, _, rfl, .of hq, RT.for_Itv (K := K) (a := qp) (xs := rfs ad q) (fun i σ H' => ∃ (v4 v5 : Option V) (kl kr : List (Key × V)), σ = [some (.ref a), some (.int (u : Int)), some (.ref lf), some (.ref rg), v4, v5] ∧ Same H H' ∧ H' qp = some (.lst (rfs ad q)) ∧ H' lf = some (.dK kl) ∧ H' rg = some (.dK kr) ∧
        kl.length ≤ i ∧ kr.length ≤ i ∧ (∀ o, SideAt ad H' kl o (sides q u (q.drop (q.length - i)) o false)) ∧ ∀ o, SideAt ad H' kr o (sides q u (q.drop (q.length - i)) o true))
      ⟨none, none, [], [], rfl, s0.trans s1, hq, s1 _ _ (by rw [upd_ne hne, upd_same]), s1 _ _ upd_same, Nat.le_refl _, Nat.le_refl _, fun o => .inl ⟨rfl, by rw [Nat.sub_zero, List.drop_length]; rfl⟩, fun o => .inl ⟨rfl, by rw [Nat.sub_zero, List.drop_length]; rfl⟩⟩ (fun i σ H' ⟨_, _, _, _, _, _, z, _⟩ => .of z) ?_ ?_⟩
    · rintro i x σ H' hi hx ⟨v4, v5, kl, kr, rfl, s5, hqp, hl, hg, ll, lr, sl, sr⟩
      rw [rfs_len] at hi hx
      obtain ⟨d, hd, rfl⟩ := rfs_get hx
      have hsplit : q = q.take (q.length - 1 - i) ++ d :: q.drop (q.length - i) := by
        have := take_split hd
        have e : q.length - 1 - i + 1 = q.length - i := by omega
        rw [e] at this
        exact this
      have hdrop : q.drop (q.length - (i + 1)) = d :: q.drop (q.length - i) := by
        have e : q.length - (i + 1) = q.length - 1 - i := by omega
        rw [e]
        obtain ⟨hlt, hge⟩ := List.getElem?_eq_some_iff.mp hd
        rw [List.drop_eq_getElem_cons hlt, hge]
        congr 2
        omega
      obtain ⟨post, epost⟩ : ∃ post, post = q.drop (q.length - i) := ⟨_, rfl⟩
      rw [← epost] at sl sr hsplit hdrop
      have lpost : post.length ≤ 100 := by
        rw [epost, List.length_drop]
        omega
      have hm := List.mem_of_getElem? hd
      obtain ⟨hml, hput⟩ := qsub d hm
      obtain ⟨x, o, rr, hact⟩ := put_of hput
      obtain ⟨sw, r, h1⟩ := (dd.same s5) d hml
      have wh := whole_sides qord u hsplit
      have len : ∀ (o : Option Nat) (b : Bool), Live post o → (sides q u post o b).length ≤ 100 := fun o b lo => Nat.le_trans (sides_len qord qids u (pre := q.take (q.length - 1 - i) ++ [d]) (by rw [List.append_assoc]; exact hsplit) b lo) lpost
      have lself := live_self qids hsplit
      have lat : Live post o := live_at qord hsplit (p := u) (r := rr) (by rw [isAt_put hact]; simp)
      -- whole = lefts.get(put.number, []) + [put] + rights.get(put.number, [])
      refine ⟨_, rfl, lf, rfl, .inl ⟨kl, .inl hl⟩, _, rfl, h1.ob.number T ⟨Nat.zero_le _, fun p1 n1 => ?_⟩⟩
      obtain ⟨b1, e1, g1⟩ := (sl (some d.id)).get n1
      have t1 : Same H' (upd H' p1 (.lst [])) := same_upd n1
      refine ⟨_, DGet.k (k := Sum.inl (enc (some d.id))) (t1 _ _ hl), ?_⟩
      rw [e1]
      refine ⟨_, rfl, by show 1 ≤ sizeLine; decide, fun p2 n2 => ?_⟩
      have t2 := same_upd2 (o := .lst [rf ad d]) t1 (t1.free n2)
      refine ⟨b1, p2, _, _, rfl, rfl, (same_upd n2 _ _ g1), upd_same, ?_, fun p3 n3 => ?_⟩
      · have := len (some d.id) false lself
        rw [rfs_len]
        exact Nat.le_of_lt (small_of (by show _ + 1 ≤ 2000; omega))
      have t3 : Same H' (upd (upd (upd H' p1 (.lst [])) p2 (.lst [rf ad d])) p3 (.lst (rfs ad (sides q u post (some d.id) false) ++ [rf ad d]))) := same_upd2 t2 (t2.free n3)
      have hp3 : upd (upd (upd H' p1 (.lst [])) p2 (.lst [rf ad d])) p3 (.lst (rfs ad (sides q u post (some d.id) false) ++ [rf ad d])) p3 = some (.lst (rfs ad (sides q u post (some d.id) false) ++ [rf ad d])) := upd_same
      generalize upd (upd (upd H' p1 (.lst [])) p2 (.lst [rf ad d])) p3 (.lst (rfs ad (sides q u post (some d.id) false) ++ [rf ad d])) = H3 at t3 hp3 ⊢
      have h3 := h1.keep (.of t3)
      refine ⟨_, rfl, rg, rfl, .inl ⟨kr, .inl (t3 _ _ hg)⟩, _, rfl, h3.ob.number T ⟨Nat.zero_le _, fun p4 n4 => ?_⟩⟩
      obtain ⟨b4, e4, g4⟩ := ((sr (some d.id)).same (H' := H3) fun b zs e => t3 _ _ e).get n4
      refine ⟨_, DGet.k (k := Sum.inl (enc (some d.id))) (same_upd n4 _ _ (t3 _ _ hg)), ?_⟩
      rw [e4]
      have lw : (whole q u d).length ≤ 201 := by
        have := len (some d.id) false lself
        have := len (some d.id) true lself
        rw [wh]
        simp only [List.length_append, List.length_singleton]
        omega
      refine ⟨p3, b4, _, _, rfl, rfl, (same_upd n4 _ _ hp3), g4, ?_, fun p5 n5 => ?_⟩
      · have := len (some d.id) false lself
        have := len (some d.id) true lself
        rw [List.length_append, rfs_len, rfs_len]
        exact Nat.le_of_lt (small_of (by show _ + 1 + _ ≤ 2000; omega))
      have t5 : Same H' (upd (upd H3 p4 (.lst [])) p5 (.lst ((rfs ad (sides q u post (some d.id) false) ++ [rf ad d]) ++ rfs ad (sides q u post (some d.id) true)))) := same_upd2 (t3.trans (same_upd n4)) ((t3.trans (same_upd n4)).free n5)
      have hp5 : upd (upd H3 p4 (.lst [])) p5 (.lst ((rfs ad (sides q u post (some d.id) false) ++ [rf ad d]) ++ rfs ad (sides q u post (some d.id) true))) p5 = some (.lst (rfs ad (whole q u d))) := by
        rw [upd_same, wh]
        unfold rfs
        rw [List.map_append, List.map_append]
        rfl
      generalize upd (upd H3 p4 (.lst [])) p5 (.lst ((rfs ad (sides q u post (some d.id) false) ++ [rf ad d]) ++ rfs ad (sides q u post (some d.id) true))) = H5 at t5 hp5 ⊢
      have h5 := h1.keep (.of t5)
      have h5a := h5.act
      rw [hact] at h5a
      refine ⟨_, rfl, h5.ob.act T (obPut.side T h5a ⟨rfl, _, rfl, ?_⟩)⟩
      cases rr with
      | false =>
        refine iteT ?_
        have hb : ∀ (o' : Option Nat), isAt u o' false d = (o == o') := fun o' => by rw [isAt_put hact]; simp
        have hb2 : ∀ (o' : Option Nat), isAt u o' true d = false := fun o' => by rw [isAt_put hact]; simp
        refine ⟨_, rfl, _, rfl, lf, rfl, .inl ⟨kl, .inl (t5 _ _ hl)⟩, _, rfl, h5.ob.act T (obPut.at T h5a ⟨Nat.zero_le _, fun p6 n6 => ?_⟩)⟩
        obtain ⟨b6, e6, g6⟩ := ((sl o).same (H' := H5) fun b zs e => t5 _ _ e).get n6
        refine ⟨_, DGet.k (k := Sum.inl (enc o)) (same_upd n6 _ _ (t5 _ _ hl)), ?_⟩
        rw [e6]
        refine ⟨p5, b6, _, _, rfl, rfl, (same_upd n6 _ _ hp5), g6, ?_, fun p7 n7 => ?_⟩
        · have := len o false lat
          rw [rfs_len, rfs_len]
          exact Nat.le_of_lt (small_of (by omega))
        have t7 : Same H' (upd (upd H5 p6 (.lst [])) p7 (.lst (rfs ad (whole q u d) ++ rfs ad (sides q u post o false)))) := same_upd2 (t5.trans (same_upd n6)) ((t5.trans (same_upd n6)).free n7)
        have hp7 : upd (upd H5 p6 (.lst [])) p7 (.lst (rfs ad (whole q u d) ++ rfs ad (sides q u post o false))) p7 = some (.lst (rfs ad (whole q u d) ++ rfs ad (sides q u post o false))) := upd_same
        generalize upd (upd H5 p6 (.lst [])) p7 (.lst (rfs ad (whole q u d) ++ rfs ad (sides q u post o false))) = H7 at t7 hp7 ⊢
        have h7 := h1.keep (.of t7)
        have h7a := h7.act
        rw [hact] at h7a
        refine ⟨_, rfl, _, rfl, h7.ob.act T (obPut.at T h7a ⟨lf, _, rfl, DPut.k (k := Sum.inl (enc o)) (t7 _ _ hl) (small_of (by omega)), ?_⟩)⟩
        have away : ∀ b zs, H7 b = some (.lst zs) → b ≠ lf := fun b zs e z => by rw [z, t7 _ _ hl] at e; cases e
        have stay : ∀ b zs, H' b = some (.lst zs) → upd H7 lf (.dK (putK kl (Sum.inl (enc o)) (.ref p7))) b = some (.lst zs) := fun b zs e => by rw [upd_ne (away b zs (t7 _ _ e))]; exact t7 _ _ e
        have newL : ∀ o', SideAt ad (upd H7 lf (.dK (putK kl (Sum.inl (enc o)) (.ref p7)))) (putK kl (Sum.inl (enc o)) (.ref p7)) o' (sides q u (d :: post) o' false) := fun o' => by
          rw [sides_cons, hb]
          by_cases c : o = o'
          · subst c
            rw [beq_self_eq_true, if_pos rfl]
            exact .inr ⟨p7, by rw [valV_put, if_pos rfl], by rw [upd_ne (away _ _ hp7), hp7]; unfold rfs; rw [List.map_append]⟩
          · have c' : (o == o') = false := beq_eq_false_iff_ne.mpr c
            rw [c', if_neg Bool.false_ne_true]
            have old := (sl o').same stay
            unfold SideAt at old ⊢
            rw [valV_put, if_neg (fun z => c (enc_inj (Sum.inl.inj z)).symm)]
            exact old
        have newR : ∀ o', SideAt ad (upd H7 lf (.dK (putK kl (Sum.inl (enc o)) (.ref p7)))) kr o' (sides q u (d :: post) o' true) := fun o' => by
          rw [sides_cons, hb2, if_neg Bool.false_ne_true]
          exact (sr o').same stay
        refine ⟨some (rf ad d), some (.ref p5), _, kr, rfl, same_upd2 (s5.trans t7) nlf, stay _ _ hqp, upd_same, (by rw [upd_ne (Ne.symm hne)]; exact t7 _ _ hg), Nat.le_trans (length_putK ..) (by omega), by omega, ?_, ?_⟩
        · rw [hdrop]; exact newL
        · rw [hdrop]; exact newR
      | true =>
        refine iteF ?_
        have hb : ∀ (o' : Option Nat), isAt u o' true d = (o == o') := fun o' => by rw [isAt_put hact]; simp
        have hb2 : ∀ (o' : Option Nat), isAt u o' false d = false := fun o' => by rw [isAt_put hact]; simp
        refine ⟨_, rfl, _, rfl, rg, rfl, .inl ⟨kr, .inl (t5 _ _ hg)⟩, _, rfl, h5.ob.act T (obPut.at T h5a ⟨Nat.zero_le _, fun p6 n6 => ?_⟩)⟩
        obtain ⟨b6, e6, g6⟩ := ((sr o).same (H' := H5) fun b zs e => t5 _ _ e).get n6
        refine ⟨_, DGet.k (k := Sum.inl (enc o)) (same_upd n6 _ _ (t5 _ _ hg)), ?_⟩
        rw [e6]
        refine ⟨p5, b6, _, _, rfl, rfl, (same_upd n6 _ _ hp5), g6, ?_, fun p7 n7 => ?_⟩
        · have := len o true lat
          rw [rfs_len, rfs_len]
          exact Nat.le_of_lt (small_of (by omega))
        have t7 : Same H' (upd (upd H5 p6 (.lst [])) p7 (.lst (rfs ad (whole q u d) ++ rfs ad (sides q u post o true)))) := same_upd2 (t5.trans (same_upd n6)) ((t5.trans (same_upd n6)).free n7)
        have hp7 : upd (upd H5 p6 (.lst [])) p7 (.lst (rfs ad (whole q u d) ++ rfs ad (sides q u post o true))) p7 = some (.lst (rfs ad (whole q u d) ++ rfs ad (sides q u post o true))) := upd_same
        generalize upd (upd H5 p6 (.lst [])) p7 (.lst (rfs ad (whole q u d) ++ rfs ad (sides q u post o true))) = H7 at t7 hp7 ⊢
        have h7 := h1.keep (.of t7)
        have h7a := h7.act
        rw [hact] at h7a
        refine ⟨_, rfl, _, rfl, h7.ob.act T (obPut.at T h7a ⟨rg, _, rfl, DPut.k (k := Sum.inl (enc o)) (t7 _ _ hg) (small_of (by omega)), ?_⟩)⟩
        have away : ∀ b zs, H7 b = some (.lst zs) → b ≠ rg := fun b zs e z => by rw [z, t7 _ _ hg] at e; cases e
        have stay : ∀ b zs, H' b = some (.lst zs) → upd H7 rg (.dK (putK kr (Sum.inl (enc o)) (.ref p7))) b = some (.lst zs) := fun b zs e => by rw [upd_ne (away b zs (t7 _ _ e))]; exact t7 _ _ e
        have newL : ∀ o', SideAt ad (upd H7 rg (.dK (putK kr (Sum.inl (enc o)) (.ref p7)))) (putK kr (Sum.inl (enc o)) (.ref p7)) o' (sides q u (d :: post) o' true) := fun o' => by
          rw [sides_cons, hb]
          by_cases c : o = o'
          · subst c
            rw [beq_self_eq_true, if_pos rfl]
            exact .inr ⟨p7, by rw [valV_put, if_pos rfl], by rw [upd_ne (away _ _ hp7), hp7]; unfold rfs; rw [List.map_append]⟩
          · have c' : (o == o') = false := beq_eq_false_iff_ne.mpr c
            rw [c', if_neg Bool.false_ne_true]
            have old := (sr o').same stay
            unfold SideAt at old ⊢
            rw [valV_put, if_neg (fun z => c (enc_inj (Sum.inl.inj z)).symm)]
            exact old
        have newR : ∀ o', SideAt ad (upd H7 rg (.dK (putK kr (Sum.inl (enc o)) (.ref p7)))) kl o' (sides q u (d :: post) o' false) := fun o' => by
          rw [sides_cons, hb2, if_neg Bool.false_ne_true]
          exact (sl o').same stay
        refine ⟨some (rf ad d), some (.ref p5), kl, _, rfl, same_upd2 (s5.trans t7) nrg0, stay _ _ hqp, (by rw [upd_ne hne]; exact t7 _ _ hl), upd_same, by omega, Nat.le_trans (length_putK ..) (by omega), ?_, ?_⟩
        · rw [hdrop]; exact newR
        · rw [hdrop]; exact newL
    · rintro σ H' ⟨v4, v5, kl, kr, rfl, s5, hqp, hl, hg, ll, lr, sl, sr⟩
      refine ⟨_, rfl, rg, rfl, .inl ⟨kr, .inl hg⟩, Nat.zero_le _, fun p1 n1 => ?_⟩
      obtain ⟨b1, e1, g1⟩ := (sr none).get n1
      refine ⟨_, DGet.k (k := Sum.inl (-1 : Int)) (same_upd n1 _ _ hg), ?_⟩
      have e1' : (valV kr (Sum.inl (-1 : Int))).getD (.ref p1) = .ref b1 := e1
      rw [e1']
      refine k _ b1 (s5.trans (same_upd n1)) ?_
      rw [g1, rfs_len, Nat.sub_self, List.drop_zero, spots_sides wf.ordered u, eq]
end
end Ho
end

section
set_option Elab.async false
set_option maxRecDepth 100000
set_option maxHeartbeats 4000000
/-! has_right, right_behind -/
namespace Ho
open PySem PySem.W PyProof.Rows L2
theorem filter_yes {α : Type} (l : List α) : l.filter (fun _ => true) = l := List.filter_eq_self.mpr fun _ _ => rfl
theorem any_spots (l : List Sq36.Deed) (u : Nat) (o : Option Nat) : (((l.filter (isPut u)).map (isAt u o true)).any id) = !(Sq36.spotsAt l u o true).isEmpty := by
  rw [← spotsAt_puts, spotsAt_eq]
  induction l.filter (isPut u) with
  | nil => rfl
  | cons d q ih =>
    rw [List.map_cons, List.any_cons, ih]
    cases c : isAt u o true d with
    | true => rw [List.filter_cons_of_pos c]; rfl
    | false => rw [List.filter_cons_of_neg (by rw [c]; exact Bool.false_ne_true)]; rfl
section
variable {P : Program} {w : World} {K : PySem.W.Frag} {mg : Str → Option Value} {base : Heap} {A : Ad} {D : Fd}
def sp_has_right (A : Ad) : Sp := fun vs H Q _ => ∃ (a : Addr) (u : Nat) (o : Option Nat) (l : List Sq36.Deed) (ad : Nat → Addr) (M : Addr → Prop), vs = [.ref a, .int (u : Int), .int (enc o)] ∧ H a = some (.lst (rfs ad l)) ∧ Dd A M ad H l ∧ l.length ≤ 100 ∧
  ∀ (H' : Hp), Same H H' → Q (.bl (!(Sq36.spotsAt l u o true).isEmpty)) H'
theorem ok_has_right (T : Txt K mg A D) : FnOk P w K mg base CX0 2 A.f_has_right D.d_has_right ["deeds", "under", "spot"] (sp_has_right A) := by
  refine T.f_has_right.ok sc_has_right (fun vs H Q E h => ?_) (fun cdv ar outer s H vs Q E hr h => have hu := hu_of hr; ⟨_, (pss_one (ps_ret (pe_callB (cr_any rfl) (by rfl) T.n_any (by decide +kernel) (pa_cons (pe_lc (own := [("put", 3)]) (g := gName 3) (tt := tYes) (by rfl) sc_has_right.nd (pi_list (pe_call (ok_puts_under T) (by exact hr.mono (by decide)) (by rfl) T.m_puts_under T.f_puts_under.kp T.b_puts_under .nil pass0 (pa_cons (pv 0) (pa_cons (pv 1) pa_nil)))) (blkOk_by (own := [("put", 3)]) (N := N_has_right) (sc := defScope s_has_right) (by decide +kernel)) (fun _ _ _ _ _ => pg_name (i := 3) sc_has_right.nd rfl (Or.inl rfl)) (fun _ _ _ _ _ => pts_nil) (fun _ _ _ _ _ => (by exact (pe_and (pe_cmpR op_eq (pe_fldK (K := K) (by rfl) (pe_fldK (K := K) (by rfl) (pv 3) (by rfl)) (by rfl)) (pv 2) (nomark _)) (pe_one (pe_cmpR op_eq (pe_fldK (K := K) (by rfl) (pe_fldK (K := K) (by rfl) (pv 3) (by rfl)) (by rfl)) (pe_glob (v := .int (1)) (by rfl) (Classical.choose_spec T.g_RIGHT) ⟨_, rfl⟩) (nomark _))))))) pa_nil)))), ?_⟩)
  · obtain ⟨a, u, o, l, ad, M, rfl, _⟩ := h; rfl
  · obtain ⟨a, u, o, l, ad, M, rfl, ha, dd, len, k⟩ := h
    refine ⟨_, rfl, _, rfl, a, u, l, ad, M, rfl, ha, dd, len, fun H1 qp s1 n1 hq => ⟨qp, rfl, ⟨_, .of hq⟩, fun p np => ?_⟩⟩
    refine lc_pick (K := K) (a := qp) (l := l.filter (isPut u)) (f := rf ad) (i := 3) (fun _ => true) (fun d => V.bl (isAt u o true d)) np (.of hq) (Nat.le_trans (List.length_filter_le _ _) (by omega)) (fun d hd H6 R s6 kR => kR H6 (Same.refl _)) (fun d hd _ H6 R s6 kR => ?_) fun H6 s6 hp => ?_
    · obtain ⟨hm, hput⟩ := List.mem_filter.mp hd
      obtain ⟨x, o', rr, hact⟩ := put_of hput
      obtain ⟨sw, r, h1⟩ := (dd.same (s1.trans s6)) d hm
      have h1a := h1.act
      rw [hact] at h1a
      have kR' := kR H6 (Same.refl _)
      rw [isAt_put hact] at kR'
      refine ⟨_, rfl, h1.ob.act T (obPut.at T h1a ⟨_, rfl, rfl, _, rfl, ?_⟩)⟩
      rw [dec_enc]
      cases c : (o' == o) with
      | false =>
        rw [c] at kR'
        exact iteF kR'
      | true =>
        rw [c] at kR'
        refine iteT ⟨_, rfl, h1.ob.act T (obPut.side T h1a ⟨rfl, ?_⟩)⟩
        have e : decide (V.int (sideI rr) = V.int 1) = (rr == true) := dec_side rr true
        rw [e]
        exact kR'
    · refine ⟨p, (l.filter (isPut u)).map (isAt u o true), rfl, .of ?_, ?_⟩
      · rw [hp, filter_yes, List.map_map]; rfl
      · rw [any_spots]
        exact k H6 (s1.trans s6)
/-! ### right_behind -/
def sp_right_behind (A : Ad) : Sp := fun vs H Q _ => ∃ (a : Addr) (u : Nat) (o : Option Nat) (l : List Sq36.Deed) (ad : Nat → Addr) (M : Addr → Prop), vs = [.ref a, .int (u : Int), .int (enc o)] ∧ H a = some (.lst (rfs ad l)) ∧ Dd A M ad H l ∧ Wf l ∧ (∀ s, o = some s → ∃ d ∈ Sq36.spots l u, d.id = s) ∧
  ∀ (H' : Hp) (t : Addr), Same H H' → H' t = some (.tup [.int (enc (Sq36.behind l u o).1), .int (sideI (Sq36.behind l u o).2)]) → Q (.ref t) H'
theorem all_flat (l : List Int) : (l.map V.int).all flatV = true := by
  induction l with
  | nil => rfl
  | cons x l ih => rw [List.map_cons, List.all_cons, ih]; rfl
/-- where a number is found first, and what comes next -/
theorem next_of (l : List Sq36.Deed) (u : Nat) (o : Option Nat) (O : Ordered l) (hs : ∀ s, o = some s → ∃ d ∈ Sq36.spots l u, d.id = s) (hr : (Sq36.spotsAt l u o true).isEmpty = false) :
    ∃ (j : Nat) (c : Nat), Sq36.behind l u o = (some c, false) ∧ (((-1 : Int) :: (Sq36.spots l u).map fun d => (d.id : Int)))[j]? = some (enc o) ∧
      (∀ (m : Nat) (z : Int), m < j → (((-1 : Int) :: (Sq36.spots l u).map fun d => (d.id : Int)))[m]? = some z → z ≠ enc o) ∧ (((-1 : Int) :: (Sq36.spots l u).map fun d => (d.id : Int)))[j + 1]? = some (c : Int) := by
  cases o with
  | none =>
    obtain ⟨c, b, e, hb⟩ := behind_none hr
    exact ⟨0, c.id, hb, rfl, fun m z hm => absurd hm (Nat.not_lt_zero _), by rw [e]; rfl⟩
  | some s =>
    obtain ⟨a, d, c, b, e, ha, hd, hb⟩ := behind_some O (hs s rfl) hr
    refine ⟨a.length + 1, c.id, hb, ?_, fun m z hm hz => ?_, ?_⟩
    · rw [e]; simp [enc, hd]
    · cases m with
      | zero => cases hz; simp only [enc]; omega
      | succ m =>
        rw [e] at hz
        rw [List.getElem?_cons_succ, List.getElem?_map, List.getElem?_append_left (by omega)] at hz
        cases q : a[m]? with
        | none => rw [q] at hz; cases hz
        | some y =>
          rw [q] at hz
          have hz' : some (y.id : Int) = some z := hz
          have := ha y (List.mem_of_getElem? q)
          have := Option.some.inj hz'
          simp only [enc]
          omega
    · rw [e]; simp
set_option maxHeartbeats 8000000 in
theorem ok_right_behind (T : Txt K mg A D) : FnOk P w K mg base CX0 3 A.f_right_behind D.d_right_behind ["deeds", "under", "spot"] (sp_right_behind A) := by
  refine T.f_right_behind.ok sc_right_behind (fun vs H Q E h => ?_) (fun cdv ar outer s H vs Q E hr h => have hu := hu_of hr; ⟨_, (pss_cons (ps_if (pt_not (pt_val (pe_call (ok_has_right T) (by exact hr.mono (by decide)) (by rfl) T.m_has_right T.f_has_right.kp T.b_has_right .nil pass0 (pa_cons (pv 0) (pa_cons (pv 1) (pa_cons (pv 2) pa_nil))))))
      (pss_one (ps_ret (pe_tup (pa_cons (pv 2) (pa_cons (pe_glob (v := .int (1)) (by rfl) (Classical.choose_spec T.g_RIGHT) ⟨_, rfl⟩) pa_nil)))))
      pss_nil)
    (pss_cons (ps_set (i := 3) sc_right_behind.nd rfl (Or.inl rfl) (pe_op op_cat (pe_lst (pa_cons (pe_glob (v := .int (-1)) (by rfl) (Classical.choose_spec T.g_BEGINNING) ⟨_, rfl⟩) pa_nil)) (pe_lc (own := [("put", 4)]) (g := gName 4) (tt := tYes) (by rfl) sc_right_behind.nd (pi_list (pe_call (ok_spots_under T) (by exact hr.mono (by decide)) (by rfl) T.m_spots_under T.f_spots_under.kp T.b_spots_under .nil pass0 (pa_cons (pv 0) (pa_cons (pv 1) pa_nil)))) (blkOk_by (own := [("put", 4)]) (N := N_right_behind) (sc := defScope s_right_behind) (by decide +kernel)) (fun _ _ _ _ _ => pg_name (i := 4) sc_right_behind.nd rfl (Or.inl rfl)) (fun _ _ _ _ _ => pts_nil) (fun _ _ _ _ _ => (by exact (pe_fldK (K := K) (by rfl) (pv 4) (by rfl)))))))
    (pss_one (ps_ret (pe_tup (pa_cons (pe_ix ix_list (pv 3) (pe_op op_add (pe_bm PySem.F.plainAttrs_list PySem.F.slot_list_index PySem.F.type_list_index mt_index (pv 3) (pa_cons (pv 2) pa_nil)) pe_int) (by exact fun _ _ => rfl)) (pa_cons (pe_glob (v := .int (0)) (by rfl) (Classical.choose_spec T.g_LEFT) ⟨_, rfl⟩) pa_nil))))))), ?_⟩)
  · obtain ⟨a, u, o, l, ad, M, rfl, _⟩ := h; rfl
  · obtain ⟨a, u, o, l, ad, M, rfl, ha, dd, wf, hs, k⟩ := h
    refine ⟨_, rfl, _, rfl, _, rfl, a, u, o, l, ad, M, rfl, ha, dd, wf.len, fun H1 s1 => ⟨_, rfl, ?_⟩⟩
    cases c : (Sq36.spotsAt l u o true).isEmpty with
    | true =>
      refine iteT ⟨_, rfl, by show 2 ≤ sizeLine; decide, fun t nt => k _ t (s1.trans (same_upd nt)) ?_⟩
      rw [upd_same, behind_right c]
      rfl
    | false =>
      refine iteF ?_
      obtain ⟨j, cid, hb, hj, hm, hn⟩ := next_of l u o wf.ordered hs c
      refine ⟨by show 1 ≤ sizeLine; decide, fun p1 n1 => ?_⟩
      have t1 : Same H (upd H1 p1 (.lst [.int (-1)])) := s1.trans (same_upd n1)
      refine ⟨_, rfl, _, rfl, a, u, l, ad, M, rfl, t1 _ _ ha, dd.same t1, wf, fun H2 qp s2 hq => ⟨qp, rfl, ⟨_, .of hq⟩, fun p np => ?_⟩⟩
      have sl := spots_len wf.ordered wf.ids u
      have wl := wf.len
      refine lc_pick (K := K) (a := qp) (l := Sq36.spots l u) (f := rf ad) (i := 4) (fun _ => true) (fun d => V.int (d.id : Int)) np (.of hq) (by omega) (fun d hd H6 R s6 kR => kR H6 (Same.refl _)) (fun d hd _ H6 R s6 kR => ?_) fun H6 s6 hp => ?_
      · obtain ⟨sw, r, h1⟩ := (dd.same (t1.trans (s2.trans s6))) d (spots_mem hd).1
        exact ⟨_, rfl, h1.ob.number T (kR H6 (Same.refl _))⟩
      · refine ⟨p1, p, _, _, rfl, rfl, s6 _ _ (s2 _ _ upd_same), hp, ?_, fun p3 n3 => ?_⟩
        · rw [filter_yes, List.length_map]
          exact Nat.le_of_lt (small_of (by show 1 + _ ≤ 2000; omega))
        have e3 : upd H6 p3 (.lst ([V.int (-1)] ++ ((Sq36.spots l u).filter fun _ => true).map fun d => V.int (d.id : Int))) p3 = some (.lst ((((-1 : Int) :: (Sq36.spots l u).map fun d => (d.id : Int))).map V.int)) := by
          rw [upd_same, filter_yes, List.map_cons, List.map_map]
          rfl
        have t3 : Same H (upd H6 p3 (.lst ([V.int (-1)] ++ ((Sq36.spots l u).filter fun _ => true).map fun d => V.int (d.id : Int)))) := t1.trans (s2.trans (s6.trans (same_upd n3)))
        generalize upd H6 p3 (.lst ([V.int (-1)] ++ ((Sq36.spots l u).filter fun _ => true).map fun d => V.int (d.id : Int))) = H3 at e3 t3 ⊢
        generalize ((-1 : Int) :: (Sq36.spots l u).map fun d => (d.id : Int)) = ns at hj hm hn e3
        refine ⟨_, rfl, _, rfl, .inl ⟨rfl, _, .of e3⟩, _, rfl, p3, _, V.int (enc o), j, V.int (enc o), rfl, rfl, .of e3, rfl, all_flat ns, ?_, ?_, fun m z hmj hz => ?_, ?_⟩
        · rw [List.getElem?_map, hj]; rfl
        · show (enc o == enc o) = true; exact beq_self_eq_true _
        · rw [List.getElem?_map] at hz
          cases q : ns[m]? with
          | none => rw [q] at hz; cases hz
          | some y =>
            rw [q] at hz
            have hz' : some (V.int y) = some z := hz
            cases hz'
            show (y == enc o) = false
            exact beq_eq_false_iff_ne.mpr (hm m y hmj q)
        refine ⟨_, _, rfl, rfl, p3, _, _, V.int (cid : Int), rfl, rfl, .of e3, ?_, by show 2 ≤ sizeLine; decide, fun t nt => k _ t (t3.trans (same_upd nt)) ?_⟩
        · have : ((j : Int) + 1) = ((j + 1 : Nat) : Int) := by omega
          rw [this]
          exact atI_nat (by rw [List.getElem?_map, hn]; rfl)
        · rw [upd_same, hb]
          rfl
end
end Ho
end

section
set_option Elab.async false
set_option maxRecDepth 100000
set_option maxHeartbeats 4000000
/-! has_seen, is_about, is_seen, tellings_of, amount_of -/
namespace Ho
open PySem PySem.W PyProof.Rows L2
section
variable {P : Program} {w : World} {K : PySem.W.Frag} {mg : Str → Option Value} {base : Heap} {A : Ad} {D : Fd}
theorem nums_at {l : List Nat} {i : Nat} (h : i < l.length) : (nums l)[i]? = some (.int ((Sq36.at_ l i : Nat) : Int)) := by
  unfold nums Sq36.at_
  rw [List.getElem?_map, List.getElem?_eq_getElem h]
  rfl
theorem dec_leN (a b : Nat) : decide ((a : Int) ≤ (b : Int)) = decide (a ≤ b) := by
  by_cases e : a ≤ b
  · rw [decide_eq_true e, decide_eq_true (by omega)]
  · rw [decide_eq_false e, decide_eq_false (by omega)]
def sp_has_seen (A : Ad) : Sp := fun vs H Q _ => ∃ (a b sw r sw' r' : Addr) (M : Addr → Prop) (d e : Sq36.Deed), vs = [.ref a, .ref b] ∧ DeedAt A M H a d sw r ∧ DeedAt A M H b e sw' r' ∧ e.stamp.hand < d.after.length ∧ Q (.bl (Sq36.saw d e)) H
theorem ok_has_seen (T : Txt K mg A D) : FnOk P w K mg base CX0 1 A.f_has_seen D.d_has_seen ["deed", "other"] (sp_has_seen A) := by
  refine T.f_has_seen.ok sc_has_seen (fun vs H Q E h => ?_) (fun cdv ar outer s H vs Q E hr h => have hu := hu_of hr; ⟨_, (pss_one (ps_ret (pe_cmpR op_le (pe_fld (pv 1) (by rfl)) (pe_ix ix_list (pe_fld (pv 0) (by rfl)) (pe_fld (pv 1) (by rfl)) (by exact fun _ _ => rfl)) (nomark _)))), ?_⟩)
  · obtain ⟨a, b, sw, r, sw', r', M, d, e, rfl, _⟩ := h; rfl
  · obtain ⟨a, b, sw, r, sw', r', M, d, e, rfl, h1, h2, hh, k⟩ := h
    refine ⟨_, rfl, h2.ob.rank T ⟨_, rfl, h1.ob.saw T ⟨_, rfl, h2.ob.desk T ⟨sw, _, _, _, rfl, rfl, .of h1.saw, atI_nat (nums_at hh), _, _, rfl, rfl, ?_⟩⟩⟩⟩
    show Q (.bl (decide ((e.n : Int) ≤ ((Sq36.at_ d.after e.stamp.hand : Nat) : Int)))) H
    rw [dec_leN]
    exact k
def sp_is_about (A : Ad) : Sp := fun vs H Q _ => ∃ (a sw r : Addr) (M : Addr → Prop) (d : Sq36.Deed) (x f : Nat), vs = [.ref a, .int (x : Int), .int (f : Int)] ∧ DeedAt A M H a d sw r ∧ ∀ H', Same H H' → Q (.bl (isAbout x f d)) H'
theorem ok_is_about (T : Txt K mg A D) : FnOk P w K mg base CX0 1 A.f_is_about D.d_is_about ["deed", "thing", "field"] (sp_is_about A) := by
  refine T.f_is_about.ok sc_is_about (fun vs H Q E h => ?_) (fun cdv ar outer s H vs Q E hr h => have hu := hu_of hr; ⟨_, (pss_cons (ps_if (pt_not (pt_val (pe_callB call_isiT (by rfl) T.n_isinstance (by decide +kernel) (pa_cons (pe_fld (pv 0) (by rfl)) (pa_cons (pe_tup (pa_cons (pe_glob (v := .ref A.Telling) (by rfl) T.c_Telling rfl) (pa_cons (pe_glob (v := .ref A.Clearing) (by rfl) T.c_Clearing rfl) pa_nil))) pa_nil)))))
      (pss_one (ps_ret pe_bl))
      pss_nil)
    (pss_one (ps_ret (pe_and (pe_cmpR op_eq (pe_fld (pe_fld (pv 0) (by rfl)) (by rfl)) (pv 1) (nomark _)) (pe_one (pe_cmpR op_eq (pe_fld (pe_fld (pv 0) (by rfl)) (by rfl)) (pv 2) (nomark _))))))), ?_⟩)
  · obtain ⟨a, sw, r, M, d, x, f, rfl, _⟩ := h; rfl
  · obtain ⟨a, sw, r, M, d, x, f, rfl, h1, k⟩ := h
    refine ⟨_, rfl, h1.ob.act T ⟨by show 2 ≤ sizeLine; decide, fun p np => ?_⟩⟩
    have s1 : Same H (upd H p (.tup [.ref A.Telling, .ref A.Clearing])) := same_upd np
    have e1 : upd H p (.tup [.ref A.Telling, .ref A.Clearing]) p = some (.tup [.ref A.Telling, .ref A.Clearing]) := upd_same
    generalize upd H p (.tup [.ref A.Telling, .ref A.Clearing]) = H1 at s1 e1 ⊢
    have h2 := h1.keep (.of s1)
    obtain ⟨t, q1, q2, _⟩ := ty_act2 T h2.act
    refine ⟨_, p, _, t, _, _, rfl, e1, .cons (.own _) (.cons (.own _) .nil), q1, q2, _, rfl, ?_⟩
    have k1 := k H1 s1
    have h3 := h2.act
    unfold isAbout at k1
    cases e : d.act <;> rw [e] at h3 k1
    · exact iteT k1
    · rename_i y g v
      have k1 : Q (.bl (y == x && g == f)) H1 := k1
      refine iteF ⟨_, rfl, h2.ob.act T (obTelling.thing T h3 ⟨_, rfl, rfl, _, rfl, ?_⟩)⟩
      rw [dec_int]
      cases c : (y == x) with
      | false => rw [c] at k1; exact iteF k1
      | true =>
        rw [c] at k1
        refine iteT ⟨_, rfl, h2.ob.act T (obTelling.field T h3 ⟨_, rfl, rfl, ?_⟩)⟩
        rw [dec_int]
        exact k1
    · rename_i y g
      have k1 : Q (.bl (y == x && g == f)) H1 := k1
      refine iteF ⟨_, rfl, h2.ob.act T (obClearing.thing T h3 ⟨_, rfl, rfl, _, rfl, ?_⟩)⟩
      rw [dec_int]
      cases c : (y == x) with
      | false => rw [c] at k1; exact iteF k1
      | true =>
        rw [c] at k1
        refine iteT ⟨_, rfl, h2.ob.act T (obClearing.field T h3 ⟨_, rfl, rfl, ?_⟩)⟩
        rw [dec_int]
        exact k1
    · exact iteT k1
    · exact iteT k1
    · exact iteT k1
/-- whatever saw has counts for each desk -/
def Sees (l : List Sq36.Deed) : Prop := ∀ d ∈ l, ∀ e ∈ l, e.stamp.hand < d.after.length
theorem any_map (l : List Sq36.Deed) (p : Sq36.Deed → Bool) : ((l.map p).any id) = l.any p := by rw [List.any_map]; rfl
def sp_is_seen (A : Ad) : Sp := fun vs H Q _ => ∃ (a b : Addr) (l : List Sq36.Deed) (e : Sq36.Deed) (ad : Nat → Addr) (M : Addr → Prop), vs = [.ref a, .ref (ad e.id)] ∧ H a = some (.lst (rfs ad l)) ∧ Dd A M ad H l ∧ e ∈ l ∧ Sees l ∧ l.length ≤ 100 ∧ ∀ H', Same H H' → Q (.bl (l.any fun d => Sq36.saw d e)) H'
theorem ok_is_seen (T : Txt K mg A D) : FnOk P w K mg base CX0 2 A.f_is_seen D.d_is_seen ["deeds", "other"] (sp_is_seen A) := by
  refine T.f_is_seen.ok sc_is_seen (fun vs H Q E h => ?_) (fun cdv ar outer s H vs Q E hr h => have hu := hu_of hr; ⟨_, (pss_one (ps_ret (pe_callB (cr_any rfl) (by rfl) T.n_any (by decide +kernel) (pa_cons (pe_lc (own := [("deed", 2)]) (g := gName 2) (tt := tYes) (by rfl) sc_is_seen.nd (pi_list (pv 0)) (blkOk_by (own := [("deed", 2)]) (N := N_is_seen) (sc := defScope s_is_seen) (by decide +kernel)) (fun _ _ _ _ _ => pg_name (i := 2) sc_is_seen.nd rfl (Or.inl rfl)) (fun _ _ _ _ _ => pts_nil) (fun _ _ _ _ _ => (by exact (pe_call (ok_has_seen T) (by exact hr.mono (by decide)) (by rfl) T.m_has_seen T.f_has_seen.kp T.b_has_seen .nil pass0 (pa_cons (pv 2) (pa_cons (pv 1) pa_nil)))))) pa_nil)))), ?_⟩)
  · obtain ⟨a, b, l, e, ad, M, rfl, _⟩ := h; rfl
  · obtain ⟨a, b, l, e, ad, M, rfl, ha, dd, he, sees, len, k⟩ := h
    refine ⟨_, rfl, a, rfl, ⟨_, .of ha⟩, fun p np => ?_⟩
    refine lc_pick (K := K) (a := a) (l := l) (f := rf ad) (i := 2) (fun _ => true) (fun d => V.bl (Sq36.saw d e)) np (.of ha) (by omega) (fun d hd H6 R s6 kR => kR H6 (Same.refl _)) (fun d hd _ H6 R s6 kR => ?_) fun H6 s6 hp => ?_
    · obtain ⟨sw, r, h1⟩ := (dd.same s6) d hd
      obtain ⟨sw', r', h2⟩ := (dd.same s6) e he
      exact ⟨_, rfl, _, rfl, _, _, sw, r, sw', r', M, d, e, rfl, h1, h2, sees d hd e he, kR H6 (Same.refl _)⟩
    · refine ⟨p, l.map fun d => Sq36.saw d e, rfl, .of ?_, ?_⟩
      · rw [hp, filter_yes, List.map_map]; rfl
      · rw [any_map]
        exact k H6 s6
def tellings (h : List Sq36.Deed) (x f : Nat) : List Sq36.Deed := (h.filter (isAbout x f)).filter fun d => (told? d).isSome && !((h.filter (isAbout x f)).any fun e => Sq36.saw e d)
theorem told_tell (d : Sq36.Deed) : (told? d).isSome = isTellA d.act := by
  unfold told? isTellA
  cases d.act <;> rfl
def sp_tellings_of (A : Ad) : Sp := fun vs H Q _ => ∃ (a : Addr) (x f : Nat) (l : List Sq36.Deed) (ad : Nat → Addr) (M : Addr → Prop), vs = [.ref a, .int (x : Int), .int (f : Int)] ∧ H a = some (.lst (rfs ad l)) ∧ Dd A M ad H l ∧ Sees l ∧ l.length ≤ 100 ∧
  ∀ (H' : Hp) (p : Addr), Same H H' → H p = none → H' p = some (.lst (rfs ad (tellings l x f))) → Q (.ref p) H'
theorem ok_tellings_of (T : Txt K mg A D) : FnOk P w K mg base CX0 3 A.f_tellings_of D.d_tellings_of ["held", "thing", "field"] (sp_tellings_of A) := by
  refine T.f_tellings_of.ok sc_tellings_of (fun vs H Q E h => ?_) (fun cdv ar outer s H vs Q E hr h => have hu := hu_of hr; ⟨_, (pss_cons (ps_set (i := 3) sc_tellings_of.nd rfl (Or.inr rfl) (pe_lc (own := [("deed", 4)]) (g := gName 4)  (by rfl) sc_tellings_of.nd (pi_list (pv 0)) (blkOk_by (own := [("deed", 4)]) (N := N_tellings_of) (sc := defScope s_tellings_of) (by decide +kernel)) (fun _ _ _ _ _ => pg_name (i := 4) sc_tellings_of.nd rfl (Or.inl rfl)) (fun _ _ _ _ _ => pts_one (by exact (pt_val (pe_call (ok_is_about T) (by exact hr.mono (by decide)) (by rfl) T.m_is_about T.f_is_about.kp T.b_is_about .nil pass0 (pa_cons (pv 4) (pa_cons (pv 1) (pa_cons (pv 2) pa_nil))))))) (fun _ _ _ _ _ => (by exact (pv 4)))))
    (pss_one (ps_ret (pe_lc (own := [("deed", 4)]) (g := gName 4)  (by rfl) sc_tellings_of.nd (pi_list (pv 3)) (blkOk_by (own := [("deed", 4)]) (N := N_tellings_of) (sc := defScope s_tellings_of) (by decide +kernel)) (fun _ _ _ _ _ => pg_name (i := 4) sc_tellings_of.nd rfl (Or.inl rfl)) (fun _ _ _ _ _ => pts_one (by exact (PW.pt (pw_and (pt_val (pe_callB (isiK (K := K) (by rfl)) (by rfl) T.n_isinstance (by decide +kernel) (pa_cons (pe_fldK (K := K) (by rfl) (pv 4) (by rfl)) (pa_cons (pe_glob (v := .ref A.Telling) (by rfl) T.c_Telling rfl) pa_nil)))) (pw_and1 (pt_not (pt_val (pe_call (ok_is_seen T) (by exact hr.mono (by decide)) (by rfl) T.m_is_seen T.f_is_seen.kp T.b_is_seen .nil pass0 (pa_cons (pv 3) (pa_cons (pv 4) pa_nil)))))))))) (fun _ _ _ _ _ => (by exact (pv 4))))))), ?_⟩)
  · obtain ⟨a, x, f, l, ad, M, rfl, _⟩ := h; rfl
  · obtain ⟨a, x, f, l, ad, M, rfl, ha, dd, sees, len, k⟩ := h
    refine ⟨_, rfl, a, rfl, ⟨_, .of ha⟩, fun p np => ?_⟩
    refine lc_pick (K := K) (a := a) (l := l) (f := rf ad) (i := 4) (isAbout x f) (rf ad) np (.of ha) (by omega) (fun d hd H6 R s6 kR => ?_) (fun d hd _ H6 R s6 kR => ⟨_, rfl, kR H6 (Same.refl _)⟩) fun H6 s6 hp => ?_
    · obtain ⟨sw, r, h1⟩ := (dd.same s6) d hd
      exact ⟨_, rfl, _, rfl, _, rfl, _, sw, r, M, d, x, f, rfl, h1, fun H7 s7 => ⟨_, rfl, kR H7 s7⟩⟩
    · have fl : ∀ d ∈ l.filter (isAbout x f), d ∈ l := fun d hd => (List.mem_filter.mp hd).1
      have fn := List.length_filter_le (isAbout x f) l
      refine ⟨_, rfl, p, rfl, ⟨_, .of hp⟩, fun p2 np2 => ?_⟩
      have dd6 := (dd.same s6).sub fl
      refine lc_pick (K := K) (a := p) (l := l.filter (isAbout x f)) (f := rf ad) (i := 4) (fun d => (told? d).isSome && !((l.filter (isAbout x f)).any fun e => Sq36.saw e d)) (rf ad) np2 (.of hp) (by omega) (fun d hd H7 R s7 kR => ?_) (fun d hd _ H7 R s7 kR => ⟨_, rfl, kR H7 (Same.refl _)⟩) fun H7 s7 hp2 => k H7 p2 (s6.trans s7) (s6.free np2) hp2
      obtain ⟨sw, r, h1⟩ := (dd6.same s7) d hd
      obtain ⟨t, q1, _, q2, _⟩ := ty_act2 T h1.act
      refine ⟨_, rfl, h1.ob.act T ⟨_, _, t, _, _, rfl, .own _, q1, q2, _, rfl, ?_⟩⟩
      rw [told_tell] at kR
      cases c : isTellA d.act with
      | false => rw [c] at kR; exact iteF (kR H7 (Same.refl _))
      | true =>
        rw [c] at kR
        exact iteT ⟨_, rfl, _, rfl, p, p, _, d, ad, M, rfl, s7 _ _ hp, dd6.same s7, hd, (fun a ha b hb => sees a (fl a ha) b (fl b hb)), by omega, fun H8 s8 => ⟨_, rfl, kR H8 s8⟩⟩
def sp_amount_of (A : Ad) : Sp := fun vs H Q _ => ∃ (a : Addr) (x : Nat) (l : List Sq36.Deed) (ad : Nat → Addr) (M : Addr → Prop), vs = [.ref a, .int (x : Int)] ∧ H a = some (.lst (rfs ad l)) ∧ Dd A M ad H l ∧ l.length ≤ 100 ∧
  ∀ (H' : Hp), Same H H' → Q (.int ((l.filter (addOf? x)).map amt).sum) H'
theorem ok_amount_of (T : Txt K mg A D) : FnOk P w K mg base CX0 1 A.f_amount_of D.d_amount_of ["held", "thing"] (sp_amount_of A) := by
  refine T.f_amount_of.ok sc_amount_of (fun vs H Q E h => ?_) (fun cdv ar outer s H vs Q E hr h => have hu := hu_of hr; ⟨_, (pss_one (ps_ret (pe_callB (cr_sum rfl) (by rfl) T.n_sum (by decide +kernel) (pa_cons (pe_lc (own := [("deed", 2)]) (g := gName 2)  (by rfl) sc_amount_of.nd (pi_list (pv 0)) (blkOk_by (own := [("deed", 2)]) (N := N_amount_of) (sc := defScope s_amount_of) (by decide +kernel)) (fun _ _ _ _ _ => pg_name (i := 2) sc_amount_of.nd rfl (Or.inl rfl)) (fun _ _ _ _ _ => pts_one (by exact (PW.pt (pw_and (pt_val (pe_callB (isiK (K := K) (by rfl)) (by rfl) T.n_isinstance (by decide +kernel) (pa_cons (pe_fldK (K := K) (by rfl) (pv 2) (by rfl)) (pa_cons (pe_glob (v := .ref A.Adding) (by rfl) T.c_Adding rfl) pa_nil)))) (pw_and1 (pt_cmpR op_eq (pe_fldK (K := K) (by rfl) (pe_fldK (K := K) (by rfl) (pv 2) (by rfl)) (by rfl)) (pv 1) (nomark _))))))) (fun _ _ _ _ _ => (by exact (pe_fldK (K := K) (by rfl) (pe_fldK (K := K) (by rfl) (pv 2) (by rfl)) (by rfl))))) pa_nil)))), ?_⟩)
  · obtain ⟨a, x, l, ad, M, rfl, _⟩ := h; rfl
  · obtain ⟨a, x, l, ad, M, rfl, ha, dd, len, k⟩ := h
    refine ⟨_, rfl, a, rfl, ⟨_, .of ha⟩, fun p np => ?_⟩
    refine lc_pick (K := K) (a := a) (l := l) (f := rf ad) (i := 2) (addOf? x) (fun d => V.int (amt d)) np (.of ha) (by omega) (fun d hd H6 R s6 kR => ?_) (fun d hd pd H6 R s6 kR => ?_) fun H6 s6 hp => ?_
    · obtain ⟨sw, r, h1⟩ := (dd.same s6) d hd
      obtain ⟨t, q1, _, _, q2⟩ := ty_act2 T h1.act
      refine ⟨_, rfl, h1.ob.act T ⟨_, _, t, _, _, rfl, .own _, q1, q2, _, rfl, ?_⟩⟩
      have h3 := h1.act
      have k6 := kR H6 (Same.refl _)
      unfold addOf? at k6
      cases e : d.act <;> rw [e] at h3 k6
      · exact iteF k6
      · exact iteF k6
      · exact iteF k6
      · rename_i y v
        refine iteT ⟨_, rfl, h1.ob.act T (obAdding.thing T h3 ⟨_, rfl, rfl, _, rfl, ?_⟩)⟩
        rw [dec_int]
        exact k6
      · exact iteF k6
      · exact iteF k6
    · obtain ⟨sw, r, h1⟩ := (dd.same s6) d hd
      have h3 := h1.act
      have k6 := kR H6 (Same.refl _)
      unfold amt at k6
      unfold addOf? at pd
      cases e : d.act <;> rw [e] at h3 k6 pd
      · cases pd
      · cases pd
      · cases pd
      · exact ⟨_, rfl, h1.ob.act T (obAdding.amount T h3 k6)⟩
      · cases pd
      · cases pd
    · refine ⟨p, (l.filter (addOf? x)).map amt, rfl, .of ?_, k H6 s6⟩
      rw [hp, List.map_map]
      rfl
end
end Ho
end

section
set_option Elab.async false
set_option maxRecDepth 100000
set_option maxHeartbeats 4000000
/-! is_there, line_up, can_be_put, places_of, is_by -/
namespace Ho
open PySem PySem.W PyProof.Rows L2
/-- the places as a dict: of each thing the put by which it is there -/
structure PlAt (ad : Nat → Addr) (H : Hp) (p : Addr) (kvs : List (Key × V)) (t : Sq28.Tree) : Prop where
  at_ : H p = some (.dK kvs)
  len : kvs.length ≤ 100
  val : ∀ x : Nat, valV kvs (Sum.inl (x : Int)) = (Sq28.get t x).map fun pl => V.ref (ad pl.label)
theorem PlAt.same {ad : Nat → Addr} {H H' : Hp} {p : Addr} {kvs : List (Key × V)} {t : Sq28.Tree} (h : PlAt ad H p kvs t) (s : Same H H') : PlAt ad H' p kvs t := ⟨s _ _ h.at_, h.len, h.val⟩
theorem isSome_map {α β : Type} (o : Option α) (f : α → β) : (o.map f).isSome = o.isSome := by cases o <;> rfl
theorem inV_nums (x : Nat) (l : List Nat) : inV (.int (x : Int)) (nums l) = l.contains x := by
  unfold inV nums
  rw [List.any_map, List.contains_eq_any_beq]
  congr 1
  funext y
  show ((y : Int) == (x : Int)) = (x == y)
  by_cases e : x = y
  · subst e; simp
  · rw [beq_eq_false_iff_ne.mpr e]
    exact beq_eq_false_iff_ne.mpr (by omega)
theorem nums_flat (l : List Nat) : (nums l).all flatV = true := by
  induction l with
  | nil => rfl
  | cons x l ih => exact ih
theorem nums_len (l : List Nat) : (nums l).length = l.length := List.length_map ..
section
variable {P : Program} {w : World} {K : PySem.W.Frag} {mg : Str → Option Value} {base : Heap} {A : Ad} {D : Fd}
def sp_is_there : Sp := fun vs H Q _ => ∃ (p : Addr) (x : Nat) (ad : Nat → Addr) (kvs : List (Key × V)) (t : Sq28.Tree), vs = [.ref p, .int (x : Int)] ∧ PlAt ad H p kvs t ∧ Q (.bl (Sq28.there t x)) H
theorem ok_is_there (T : Txt K mg A D) : FnOk P w K mg base CX0 1 A.f_is_there D.d_is_there ["places", "thing"] sp_is_there := by
  refine T.f_is_there.ok sc_is_there (fun vs H Q E h => ?_) (fun cdv ar outer s H vs Q E hr h => have hu := hu_of hr; ⟨_, (pss_one (ps_ret (pe_or (pe_cmpR op_eq (pv 1) (pe_glob (v := .int (0)) (by rfl) (Classical.choose_spec T.g_ROOT) ⟨_, rfl⟩) (nomark _)) (pe_or (pe_cmpR op_eq (pv 1) (pe_glob (v := .int (1)) (by rfl) (Classical.choose_spec T.g_BIN) ⟨_, rfl⟩) (nomark _)) (pe_one (pe_cmp (pc_din (by exact hu) (pv 1) (pv 0)) (by rfl))))))), ?_⟩)
  · obtain ⟨p, x, ad, kvs, t, rfl, _⟩ := h; rfl
  · obtain ⟨p, x, ad, kvs, t, rfl, h1, k⟩ := h
    have k : Q (.bl (x == 0 || (x == 1 || (Sq28.get t x).isSome))) H := k
    have e0 : decide (V.int (x : Int) = V.int 0) = (x == 0) := dec_int x 0
    have e1 : decide (V.int (x : Int) = V.int 1) = (x == 1) := dec_int x 1
    refine ⟨_, rfl, rfl, _, rfl, ?_⟩
    rw [e0]
    cases c0 : (x == 0) with
    | true => rw [c0] at k; exact iteT k
    | false =>
      rw [c0] at k
      refine iteF ⟨_, rfl, rfl, _, rfl, ?_⟩
      rw [e1]
      cases c1 : (x == 1) with
      | true => rw [c1] at k; exact iteT k
      | false =>
        rw [c1] at k
        refine iteF ⟨_, rfl, _, rfl, p, _, rfl, DGet.k (k := Sum.inl (x : Int)) h1.at_, ?_⟩
        rw [h1.val, isSome_map]
        exact k
/-- a tree whose things are there by puts of deeds in the heap -/
structure TrAt (A : Ad) (M : Addr → Prop) (ad : Nat → Addr) (H : Hp) (p : Addr) (kvs : List (Key × V)) (t : Sq28.Tree) : Prop where
  pl : PlAt ad H p kvs t
  gr : Grounded t
  le : t.length ≤ 100
  by_ : ∀ x q, Sq28.get t x = some q → ∃ (d : Sq36.Deed) (o : Option Nat) (b : Bool) (sw r : Addr), d.id = q.label ∧ d.act = .put x q.under o b ∧ DeedAt A M H (ad q.label) d sw r
theorem TrAt.same {M : Addr → Prop} {ad : Nat → Addr} {H H' : Hp} {p : Addr} {kvs : List (Key × V)} {t : Sq28.Tree} (h : TrAt A M ad H p kvs t) (s : Same H H') : TrAt A M ad H' p kvs t :=
  ⟨h.pl.same s, h.gr, h.le, fun x q e => let ⟨d, o, b, sw, r, h1, h2, h3⟩ := h.by_ x q e; ⟨d, o, b, sw, r, h1, h2, h3.keep (.of s)⟩⟩
theorem TrAt.keep {M : Addr → Prop} {ad : Nat → Addr} {H H' : Hp} {p : Addr} {kvs : List (Key × V)} {t : Sq28.Tree} (h : TrAt A M ad H p kvs t) (n : ¬ M p) (s : Keep M H H') : TrAt A M ad H' p kvs t :=
  ⟨⟨s _ _ n h.pl.at_, h.pl.len, h.pl.val⟩, h.gr, h.le, fun x q e => let ⟨d, o, b, sw, r, h1, h2, h3⟩ := h.by_ x q e; ⟨d, o, b, sw, r, h1, h2, h3.keep s⟩⟩
def sp_line_up (A : Ad) : Sp := fun vs H Q _ => ∃ (p : Addr) (x : Nat) (ad : Nat → Addr) (M : Addr → Prop) (kvs : List (Key × V)) (t : Sq28.Tree), vs = [.ref p, .int (x : Int)] ∧ TrAt A M ad H p kvs t ∧
  ∀ (H' : Hp) (q : Addr), Same H H' → H q = none → H' q = some (.lst (nums (Sq28.above t x))) → Q (.ref q) H'
def lenAt (q : Addr) (H : Hp) : Nat := match H q with
  | some (.lst xs) => xs.length
  | _ => 0
theorem lenAt_eq {q : Addr} {H : Hp} {xs : List V} (h : H q = some (.lst xs)) : lenAt q H = xs.length := by
  unfold lenAt
  rw [h]
theorem ok_line_up (T : Txt K mg A D) : FnOk P w K mg base CX0 1 A.f_line_up D.d_line_up ["places", "thing"] (sp_line_up A) := by
  refine T.f_line_up.ok sc_line_up (fun vs H Q E h => ?_) (fun cdv ar outer s H vs Q E hr h => have hu := hu_of hr; ⟨_, (pss_cons (ps_set (i := 2) sc_line_up.nd rfl (Or.inl rfl) (pe_lst (pa_cons (pv 1) pa_nil)))
    (pss_cons (ps_while PassesOwn.never (pt_cmp (pc_din (by exact hu) (pv 1) (pv 0)))
      (pss_cons (ps_set (i := 1) sc_line_up.nd rfl (Or.inl rfl) (pe_fld (pe_fld (pe_dget (by exact hu) (pv 0) (pv 1) (by exact fun _ _ => rfl)) (by rfl)) (by rfl)))
    (pss_one (ps_expr (pe_bm PySem.F.plainAttrs_list PySem.F.slot_list_append PySem.F.type_list_append mt_append (pv 2) (pa_cons (pv 1) pa_nil))))))
    (pss_one (ps_ret (pv 2))))), ?_⟩)
  · obtain ⟨p, x, ad, M, kvs, t, rfl, _⟩ := h; rfl
  · obtain ⟨p, x, ad, M, kvs, t, rfl, h1, k⟩ := h
    refine ⟨_, rfl, by show 1 ≤ sizeLine; decide, fun q nq => ?_⟩
    have up := h1.gr.above x
    have ul := up.length_le
    refine while_by (fun σ H' => ∃ (cur : Nat) (pre rest : List Nat), σ = [some (.ref p), some (.int (cur : Int)), some (.ref q)] ∧ Same H H' ∧ H' q = some (.lst (nums (pre ++ [cur]))) ∧ Up t cur rest ∧ pre ++ rest = Sq28.above t x)
      (fun _ H' => (Sq28.above t x).length - lenAt q H') ⟨x, [], _, rfl, same_upd nq, upd_same, up, rfl⟩ ?_ ?_
    · rintro σ H' ⟨cur, pre, rest, rfl, s5, hq, ur, er⟩
      refine ⟨_, rfl, _, rfl, p, _, rfl, DGet.k (k := Sum.inl (cur : Int)) (s5 _ _ h1.pl.at_), _, rfl, ?_⟩
      rw [h1.pl.val, isSome_map]
      have hlen : (pre ++ rest).length ≤ 101 := by rw [er]; have := h1.le; omega
      cases ur with
      | top g =>
        rw [g]
        refine iteF ⟨_, rfl, k H' q s5 nq ?_⟩
        rw [hq, er]
      | @step _ pl rest' g ur' =>
        rw [g]
        obtain ⟨d, o, b, sw, r, e1, e2, h3⟩ := (h1.same s5).by_ _ _ g
        have h3a := h3.act
        rw [e2] at h3a
        have dg : DGet H' p (kV (Sum.inl (cur : Int))) (some (V.ref (ad pl.label))) := by
          have := DGet.k (k := Sum.inl (cur : Int)) (s5 _ _ h1.pl.at_)
          rw [h1.pl.val, g] at this
          exact this
        refine iteT ⟨_, rfl, _, rfl, p, _, rfl, dg, h3.ob.act T (obPut.under T h3a ?_)⟩
        rw [List.length_append, List.length_cons] at hlen
        refine ⟨_, rfl, .inl ⟨rfl, _, .of hq⟩, _, rfl, q, _, _, rfl, rfl, hq, small_of (by rw [nums_len, List.length_append, List.length_singleton]; omega), ?_⟩
        refine ⟨⟨pl.under, pre ++ [cur], rest', rfl, same_upd2 s5 nq, ?_, ur', ?_⟩, ?_⟩
        · rw [upd_same]; unfold nums; simp
        · rw [List.append_assoc]; exact er
        · rw [lenAt_eq upd_same, lenAt_eq hq, ← er]
          simp only [List.length_append, List.length_cons, nums_len, List.length_nil]
          have : 0 < rest'.length := by
            obtain ⟨z, hz⟩ := ur'.head
            rw [hz]; simp
          omega
    · intro σ H Q Q' hq h
      obtain ⟨v, e, v2, e2, a, o, e3, dg, c, e4, h5⟩ := h
      exact ⟨v, e, v2, e2, a, o, e3, dg, c, e4, hq _ _ h5⟩
def sp_can_be_put (A : Ad) : Sp := fun vs H Q _ => ∃ (p : Addr) (x u : Nat) (ad : Nat → Addr) (M : Addr → Prop) (kvs : List (Key × V)) (t : Sq28.Tree), vs = [.ref p, .int (x : Int), .int (u : Int)] ∧ TrAt A M ad H p kvs t ∧
  ∀ (H' : Hp), Same H H' → Q (.bl (Sq28.there t u && !(Sq28.above t u).contains x)) H'
theorem ok_can_be_put (T : Txt K mg A D) : FnOk P w K mg base CX0 2 A.f_can_be_put D.d_can_be_put ["places", "thing", "under"] (sp_can_be_put A) := by
  refine T.f_can_be_put.ok sc_can_be_put (fun vs H Q E h => ?_) (fun cdv ar outer s H vs Q E hr h => have hu := hu_of hr; ⟨_, (pss_one (ps_ret (pe_and (pe_call (ok_is_there T) (by exact hr.mono (by decide)) (by rfl) T.m_is_there T.f_is_there.kp T.b_is_there .nil pass0 (pa_cons (pv 0) (pa_cons (pv 2) pa_nil))) (pe_one (pe_cmpR op_notIn_seq (pv 1) (pe_call (ok_line_up T) (by exact hr.mono (by decide)) (by rfl) T.m_line_up T.f_line_up.kp T.b_line_up .nil pass0 (pa_cons (pv 0) (pa_cons (pv 2) pa_nil))) (by rfl)))))), ?_⟩)
  · obtain ⟨p, x, u, ad, M, kvs, t, rfl, _⟩ := h; rfl
  · obtain ⟨p, x, u, ad, M, kvs, t, rfl, h1, k⟩ := h
    refine ⟨_, rfl, _, rfl, p, u, ad, kvs, t, rfl, h1.pl, _, rfl, ?_⟩
    cases c : Sq28.there t u with
    | false => rw [c] at k; exact iteF (k H (Same.refl _))
    | true =>
      rw [c] at k
      refine iteT ⟨_, rfl, _, rfl, _, rfl, p, u, ad, M, kvs, t, rfl, h1, fun H' q s' nq hq => ⟨q, _, rfl, .inl (.of hq), rfl, nums_flat _, ?_⟩⟩
      rw [if_pos rfl, inV_nums]
      exact k H' s'
def sp_places_of (A : Ad) : Sp := fun vs H Q _ => ∃ (a : Addr) (l : List Sq36.Deed) (ad : Nat → Addr) (M : Addr → Prop), vs = [.ref a] ∧ H a = some (.lst (rfs ad l)) ∧ Dd A M ad H l ∧ l.length ≤ 100 ∧
  ∀ (H' : Hp) (p : Addr) (kvs : List (Key × V)), Same H H' → H p = none → TrAt A M ad H' p kvs (treeBy l) → Q (.ref p) H'
theorem trAt_of {M : Addr → Prop} {ad : Nat → Addr} {H : Hp} {l : List Sq36.Deed} {p : Addr} {kvs : List (Key × V)} (dd : Dd A M ad H l) (ll : l.length ≤ 100) (h : PlAt ad H p kvs (treeBy l)) : TrAt A M ad H p kvs (treeBy l) := by
  obtain ⟨i1, i2, i3⟩ := treeBy_ok l
  refine ⟨h, i3, by omega, fun x q e => ?_⟩
  obtain ⟨d, hd, hid, o, b, ha⟩ := i1 x q e
  obtain ⟨sw, r, h1⟩ := dd d hd
  exact ⟨d, o, b, sw, r, hid, ha, hid ▸ h1⟩
theorem ok_places_of (T : Txt K mg A D) : FnOk P w K mg base CX0 3 A.f_places_of D.d_places_of ["held"] (sp_places_of A) := by
  refine T.f_places_of.ok sc_places_of (fun vs H Q E h => ?_) (fun cdv ar outer s H vs Q E hr h => have hu := hu_of hr; ⟨_, (pss_cons (ps_set (i := 1) sc_places_of.nd rfl (Or.inl rfl) pe_dnewK)
    (pss_cons (ps_for PassesOwn.never rfl (pi_list (pv 0)) (pg_name (i := 2) sc_places_of.nd rfl (Or.inl rfl))
      (pss_one (ps_if (PW.pt (pw_and (pt_val (pe_callB call_isi (by rfl) T.n_isinstance (by decide +kernel) (pa_cons (pe_fld (pv 2) (by rfl)) (pa_cons (pe_glob (v := .ref A.Put) (by rfl) T.c_Put rfl) pa_nil)))) (pw_and1 (pt_val (pe_call (ok_can_be_put T) (by exact hr.mono (by decide)) (by rfl) T.m_can_be_put T.f_can_be_put.kp T.b_can_be_put .nil pass0 (pa_cons (pv 1) (pa_cons (pe_fld (pe_fld (pv 2) (by rfl)) (by rfl)) (pa_cons (pe_fld (pe_fld (pv 2) (by rfl)) (by rfl)) pa_nil))))))))
      (pss_one (ps_dput (by exact hu) (pv 1) (pe_fld (pe_fld (pv 2) (by rfl)) (by rfl)) (pv 2) (by rfl)))
      pss_nil)))
    (pss_one (ps_ret (pv 1))))), ?_⟩)
  · obtain ⟨a, l, ad, M, rfl, _⟩ := h; rfl
  · obtain ⟨a, l, ad, M, rfl, ha, dd, ll, k⟩ := h
    intro p np
    have s0 : Same H (upd H p (.dK [])) := same_upd np
    refine ⟨_, rfl, a, rfl, ⟨_, .of (s0 _ _ ha)⟩, for_list (K := K) (a := a) (xs := rfs ad l) (fun i σ H' => ∃ (v : Option V) (kvs : List (Key × V)), σ = [some (.ref a), some (.ref p), v] ∧ Same H H' ∧ kvs.length ≤ i ∧ PlAt ad H' p kvs (treeBy (l.take i)))
      ⟨none, [], rfl, s0, Nat.le_refl _, ⟨upd_same, Nat.zero_le _, fun x => rfl⟩⟩ (fun i σ H' _ ⟨_, _, _, s5, _⟩ => s5.seq (.of ha)) ?_ ?_⟩
    · rintro i x σ H' hx ⟨v, kvs, rfl, s5, lk, hp⟩
      obtain ⟨d, hd, rfl⟩ := rfs_get hx
      have hm := List.mem_of_getElem? hd
      have tk := take_snoc hd
      have hi : i < 100 := Nat.lt_of_lt_of_le (List.getElem?_eq_some_iff.mp hd).1 ll
      obtain ⟨sw, r, h1⟩ := (dd.same s5) d hm
      obtain ⟨ty, q1, _, q2, _⟩ := ty_act T h1.act
      refine ⟨_, rfl, h1.ob.act T ⟨_, _, ty, _, _, rfl, .own _, q1, q2, _, rfl, ?_⟩⟩
      have h3 := h1.act
      have sn := treeBy_snoc (l.take i) d
      rw [← tk] at sn
      cases e : d.act <;> rw [e] at h3 sn
      · rename_i x u o b
        simp only at sn
        refine iteT ⟨_, rfl, _, rfl, h1.ob.act T (obPut.thing T h3 ⟨_, rfl, h1.ob.act T (obPut.under T h3 ?_)⟩)⟩
        have tr := trAt_of ((dd.same s5).sub (m := l.take i) fun e he => List.mem_of_mem_take he) (by rw [List.length_take]; omega) hp
        refine ⟨p, x, u, ad, M, kvs, _, rfl, tr, fun H2 s2 => ⟨_, rfl, ?_⟩⟩
        by_cases c : Sq28.there (treeBy (l.take i)) u = true ∧ x ∉ Sq28.above (treeBy (l.take i)) u
        · rw [if_pos c] at sn
          have c' : (Sq28.there (treeBy (l.take i)) u && !(Sq28.above (treeBy (l.take i)) u).contains x) = true := by
            rw [c.1, Bool.true_and, Bool.not_eq_true', ← Bool.not_eq_true]
            exact fun z => c.2 (List.contains_iff_mem.mp z)
          rw [c']
          have h2 := h1.keep (.of s2)
          have h2a := h2.act
          rw [e] at h2a
          refine iteT ⟨_, rfl, _, rfl, _, rfl, h2.ob.act T (obPut.thing T h2a ⟨p, _, rfl, DPut.k (k := Sum.inl (x : Int)) (s2 _ _ hp.at_) (small_of (by omega)), ?_⟩)⟩
          refine ⟨some (rf ad d), _, rfl, same_upd2 (s5.trans s2) np, Nat.le_trans (length_putK ..) (by omega), ⟨upd_same, Nat.le_trans (length_putK ..) (by omega), fun y => ?_⟩⟩
          rw [valV_put, sn]
          by_cases z : y = x
          · subst z
            have := get_put_same (p := ⟨y, u, d.id⟩) (t := treeBy (l.take i))
            rw [if_pos rfl, this]
            rfl
          · rw [if_neg (fun q => z (by injection q with q; omega)), get_put_ne (p := ⟨x, u, d.id⟩) z, hp.val]
        · rw [if_neg c] at sn
          have c' : (Sq28.there (treeBy (l.take i)) u && !(Sq28.above (treeBy (l.take i)) u).contains x) = false := by
            rw [← Bool.not_eq_true]
            intro z
            rw [Bool.and_eq_true] at z
            refine c ⟨z.1, fun q => ?_⟩
            have := z.2
            rw [List.contains_iff_mem.mpr q] at this
            cases this
          rw [c']
          refine iteF ⟨some (rf ad d), kvs, rfl, s5.trans s2, by omega, ?_⟩
          rw [sn]
          exact hp.same s2
      all_goals
        simp only at sn
        refine iteF (iteF ⟨some (rf ad d), kvs, rfl, s5, by omega, ?_⟩)
        rw [sn]
        exact hp
    · rintro σ H' ⟨v, kvs, rfl, s5, lk, hp⟩
      rw [rfs_len, List.take_length] at hp
      exact ⟨_, rfl, k H' p kvs s5 np (trAt_of (dd.same s5) ll hp)⟩
def sp_is_by (A : Ad) : Sp := fun vs H Q _ => ∃ (p a : Addr) (ad : Nat → Addr) (M : Addr → Prop) (kvs : List (Key × V)) (t : Sq28.Tree) (d : Sq36.Deed) (u : Nat) (sw r : Addr), vs = [.ref p, .ref a] ∧ TrAt A M ad H p kvs t ∧ DeedAt A M H a d sw r ∧ isPut u d = true ∧ Q (.bl (isBy t d)) H
theorem ok_is_by (T : Txt K mg A D) : FnOk P w K mg base CX0 1 A.f_is_by D.d_is_by ["places", "put"] (sp_is_by A) := by
  refine T.f_is_by.ok sc_is_by (fun vs H Q E h => ?_) (fun cdv ar outer s H vs Q E hr h => have hu := hu_of hr; ⟨_, (pss_one (ps_ret (pe_and (pe_cmp (pc_din (by exact hu) (pe_fld (pe_fld (pv 1) (by rfl)) (by rfl)) (pv 0)) (by rfl)) (pe_one (pe_cmpR op_eq (pe_fld (pe_dget (by exact hu) (pv 0) (pe_fld (pe_fld (pv 1) (by rfl)) (by rfl)) (by exact fun _ _ => rfl)) (by rfl)) (pe_fld (pv 1) (by rfl)) (nomark _)))))), ?_⟩)
  · obtain ⟨p, a, ad, M, kvs, t, d, u, sw, r, rfl, _⟩ := h; rfl
  · obtain ⟨p, a, ad, M, kvs, t, d, u, sw, r, rfl, h1, h2, hput, k⟩ := h
    obtain ⟨x, o, b, hact⟩ := put_of hput
    have h2a := h2.act
    rw [hact] at h2a
    have th : d.thing = x := by unfold Sq36.Deed.thing; rw [hact]
    unfold isBy at k
    rw [th] at k
    refine ⟨_, rfl, h2.ob.act T (obPut.thing T h2a ⟨_, rfl, p, _, rfl, DGet.k (k := Sum.inl (x : Int)) h1.pl.at_, _, rfl, ?_⟩)⟩
    rw [h1.pl.val, isSome_map]
    cases g : Sq28.get t x with
    | none => rw [g] at k; exact iteF k
    | some q =>
      rw [g] at k
      obtain ⟨d', o', b', sw', r', e1, e2, h3⟩ := h1.by_ _ _ g
      have dg : DGet H p (kV (Sum.inl (x : Int))) (some (V.ref (ad q.label))) := by
        have := DGet.k (k := Sum.inl (x : Int)) h1.pl.at_
        rw [h1.pl.val, g] at this
        exact this
      refine iteT ⟨_, rfl, _, rfl, h2.ob.act T (obPut.thing T h2a ⟨p, _, rfl, dg, h3.ob.number T ⟨_, rfl, h2.ob.number T ⟨rfl, ?_⟩⟩⟩)⟩
      rw [dec_int, e1]
      exact k
end
end Ho
end

section
set_option Elab.async false
set_option maxRecDepth 100000
set_option maxHeartbeats 4000000
/-! Outline, row_of, can_move, put_behind -/
namespace Ho
open PySem PySem.W PyProof.Rows L2
section
variable {P : Program} {w : World} {K : PySem.W.Frag} {mg : Str → Option Value} {base : Heap} {A : Ad} {D : Fd}
/-- a new instance, ahead of its __init__ -/
def made (H : Hp) (p dx C : Addr) : Hp := upd (upd H dx (.own p)) p (.ins C dx [])
theorem made_same {H : Hp} {p dx C : Addr} (np : H p = none) (nd : H dx = none) : Same H (made H p dx C) := same_upd2 (same_upd nd) np
structure OutAt (A : Ad) (M : Addr → Prop) (ad : Nat → Addr) (H : Hp) (a : Addr) (l : List Sq36.Deed) (dl hl pl : Addr) (kvs : List (Key × V)) : Prop where
  ob : obOutline A H a (.ref dl) (.ref hl) (.ref pl)
  dl : H dl = some (.lst (rfs ad l))
  hl : H hl = some (.lst (rfs ad (Sq36.held l)))
  tr : TrAt A M ad H pl kvs (Sq36.treeOf l)
theorem OutAt.same {M : Addr → Prop} {ad : Nat → Addr} {H H' : Hp} {a : Addr} {l : List Sq36.Deed} {dl hl pl : Addr} {kvs : List (Key × V)} (h : OutAt A M ad H a l dl hl pl kvs) (s : Same H H') : OutAt A M ad H' a l dl hl pl kvs :=
  ⟨h.ob.same s, s _ _ h.dl, s _ _ h.hl, h.tr.same s⟩
theorem OutAt.keep {M : Addr → Prop} {ad : Nat → Addr} {H H' : Hp} {a : Addr} {l : List Sq36.Deed} {dl hl pl : Addr} {kvs : List (Key × V)} (h : OutAt A M ad H a l dl hl pl kvs) (na : ¬ M a) (nd : ¬ M dl) (nh : ¬ M hl) (np : ¬ M pl) (s : Keep M H H') : OutAt A M ad H' a l dl hl pl kvs :=
  ⟨let ⟨dx, e⟩ := h.ob; ⟨dx, s _ _ na e⟩, s _ _ nd h.dl, s _ _ nh h.hl, h.tr.keep np s⟩
def sp_Outline_init (A : Ad) : Sp := fun vs H Q _ => ∃ (p dx a : Addr) (H0 : Hp) (l : List Sq36.Deed) (ad : Nat → Addr) (M : Addr → Prop), vs = [.ref p, .ref a] ∧ H = made H0 p dx A.Outline ∧ H0 p = none ∧ H0 dx = none ∧ dx ≠ p ∧ H0 a = some (.lst (rfs ad l)) ∧ Dd A M ad H0 l ∧ Wf l ∧
  ∀ (H' : Hp) (hl pl : Addr) (kvs : List (Key × V)), Same H0 H' → H0 hl = none → H0 pl = none → OutAt A M ad H' p l a hl pl kvs → Q .non H'
theorem ok_Outline_init (T : Txt K mg A D) : FnOk P w K mg base CX0 4 A.f_Outline_init D.d_Outline_init ["self", "deeds"] (sp_Outline_init A) := by
  refine T.f_Outline_init.ok sc_Outline_init (fun vs H Q E h => ?_) (fun cdv ar outer s H vs Q E hr h => have hu := hu_of hr; ⟨_, (pss_cons (ps_fld (pv 0) (pv 1) (by rfl))
    (pss_cons (ps_fld (pv 0) (pe_call (ok_holding T) (by exact hr.mono (by decide)) (by rfl) T.m_holding T.f_holding.kp T.b_holding .nil pass0 (pa_cons (pv 1) pa_nil)) (by rfl))
    (pss_one (ps_fld (pv 0) (pe_call (ok_places_of T) (by exact hr.mono (by decide)) (by rfl) T.m_places_of T.f_places_of.kp T.b_places_of .nil pass0 (pa_cons (pe_fld (pv 0) (by rfl)) pa_nil)) (by rfl))))), ?_⟩)
  · obtain ⟨p, dx, a, H0, l, ad, M, rfl, _⟩ := h; rfl
  · obtain ⟨p, dx, a, H0, l, ad, M, rfl, rfl, np, nd, ne, ha, dd, wf, k⟩ := h
    refine ⟨_, rfl, _, rfl, p, A.Outline, dx, _, rfl, upd_same, T.cl_Outline, T.na_Outline_deeds, (by show 0 < 1000; decide), ?_⟩
    have s1 : Same H0 (upd (made H0 p dx A.Outline) p (.ins A.Outline dx (putF "deeds" (.ref a) []))) := same_upd2 (made_same np nd) np
    have e1 : upd (made H0 p dx A.Outline) p (.ins A.Outline dx (putF "deeds" (.ref a) [])) p = some (.ins A.Outline dx (putF "deeds" (.ref a) [])) := upd_same
    generalize upd (made H0 p dx A.Outline) p (.ins A.Outline dx (putF "deeds" (.ref a) [])) = H1 at s1 e1 ⊢
    refine ⟨_, rfl, a, l, ad, M, rfl, s1 _ _ ha, dd.same s1, wf, fun H2 hl s2 n2 hhl => ?_⟩
    refine ⟨_, rfl, p, A.Outline, dx, _, rfl, s2 _ _ e1, T.cl_Outline, T.na_Outline_held, (by show 1 < 1000; decide), ?_⟩
    have s3 : Same H0 (upd H2 p (.ins A.Outline dx (putF "held" (.ref hl) (putF "deeds" (.ref a) [])))) := same_upd2 (s1.trans s2) np
    have e3 : upd H2 p (.ins A.Outline dx (putF "held" (.ref hl) (putF "deeds" (.ref a) []))) p = some (.ins A.Outline dx (putF "held" (.ref hl) (putF "deeds" (.ref a) []))) := upd_same
    have h3 : upd H2 p (.ins A.Outline dx (putF "held" (.ref hl) (putF "deeds" (.ref a) []))) hl = some (.lst (rfs ad (Sq36.held l))) := by
      rw [upd_ne (fun z => by rw [z, s2 _ _ e1] at hhl; cases hhl)]; exact hhl
    generalize upd H2 p (.ins A.Outline dx (putF "held" (.ref hl) (putF "deeds" (.ref a) []))) = H3 at s3 e3 h3 ⊢
    refine ⟨_, rfl, p, A.Outline, dx, _, _, rfl, e3, T.cl_Outline, T.na_Outline_held, (lk_past (by decide +kernel)).trans lk_here, ?_⟩
    refine ⟨hl, _, ad, M, rfl, h3, (dd.same s3).sub fun d hd => held_sub hd, Nat.le_trans (List.length_filter_le _ _) wf.len, fun H4 pl kvs s4 n4 tr => ?_⟩
    refine ⟨_, rfl, p, A.Outline, dx, _, rfl, s4 _ _ e3, T.cl_Outline, T.na_Outline_places, (by show 2 < 1000; decide), ?_⟩
    have away : ∀ b o, H4 b = some o → (∀ fs, o ≠ .ins A.Outline dx fs) → b ≠ p := fun b o e n z => by rw [z, s4 _ _ e3] at e; exact n _ (Option.some.inj e).symm
    have s5 : Same H0 (upd H4 p (.ins A.Outline dx (putF "places" (.ref pl) (putF "held" (.ref hl) (putF "deeds" (.ref a) []))))) := same_upd2 (s3.trans s4) np
    refine k _ hl pl kvs s5 (s1.free n2) (s3.free n4) ⟨⟨dx, ?_⟩, s5 _ _ ha, ?_, trAt_of ((dd.same s5).sub fun d hd => held_sub hd) (Nat.le_trans (List.length_filter_le _ _) wf.len) ⟨?_, tr.pl.len, tr.pl.val⟩⟩
    · rw [upd_same]; rfl
    · rw [upd_ne (away _ _ (s4 _ _ h3) fun fs z => by cases z)]; exact s4 _ _ h3
    · rw [upd_ne (away _ _ tr.pl.at_ fun fs z => by cases z)]; exact tr.pl.at_
def sp_row_of (A : Ad) : Sp := fun vs H Q _ => ∃ (a dl hl pl : Addr) (u : Nat) (kvs : List (Key × V)) (l : List Sq36.Deed) (ad : Nat → Addr) (M : Addr → Prop), vs = [.ref a, .int (u : Int)] ∧ OutAt A M ad H a l dl hl pl kvs ∧ Dd A M ad H l ∧ Wf l ∧
  ∀ (H' : Hp) (q : Addr), Same H H' → H q = none → H' q = some (.lst (rfs ad (Sq36.row l (Sq36.treeOf l) u))) → Q (.ref q) H'
theorem ok_row_of (T : Txt K mg A D) : FnOk P w K mg base CX0 3 A.f_row_of D.d_row_of ["outline", "under"] (sp_row_of A) := by
  refine T.f_row_of.ok sc_row_of (fun vs H Q E h => ?_) (fun cdv ar outer s H vs Q E hr h => have hu := hu_of hr; ⟨_, (pss_one (ps_ret (pe_lc (own := [("put", 2)]) (g := gName 2)  (by rfl) sc_row_of.nd (pi_list (pe_call (ok_spots_under T) (by exact hr.mono (by decide)) (by rfl) T.m_spots_under T.f_spots_under.kp T.b_spots_under .nil pass0 (pa_cons (pe_fld (pv 0) (by rfl)) (pa_cons (pv 1) pa_nil)))) (blkOk_by (own := [("put", 2)]) (N := N_row_of) (sc := defScope s_row_of) (by decide +kernel)) (fun _ _ _ _ _ => pg_name (i := 2) sc_row_of.nd rfl (Or.inl rfl)) (fun _ _ _ _ _ => pts_one (by exact (pt_val (pe_call (ok_is_by T) (by exact hr.mono (by decide)) (by rfl) T.m_is_by T.f_is_by.kp T.b_is_by .nil pass0 (pa_cons (pe_fldK (K := K) (by rfl) (pv 0) (by rfl)) (pa_cons (pv 2) pa_nil)))))) (fun _ _ _ _ _ => (by exact (pv 2)))))), ?_⟩)
  · obtain ⟨a, dl, hl, pl, u, kvs, l, ad, M, rfl, _⟩ := h; rfl
  · obtain ⟨a, dl, hl, pl, u, kvs, l, ad, M, rfl, ho, dd, wf, k⟩ := h
    refine ⟨_, rfl, ho.ob.deeds T ⟨_, rfl, dl, u, l, ad, M, rfl, ho.dl, dd, wf, fun H2 qp s2 hq => ⟨qp, rfl, ⟨_, .of hq⟩, fun p np => ?_⟩⟩⟩
    have sl := spots_len wf.ordered wf.ids u
    have wl := wf.len
    refine lc_pick (K := K) (a := qp) (l := Sq36.spots l u) (f := rf ad) (i := 2) (isBy (Sq36.treeOf l)) (rf ad) np (.of hq) (by omega) (fun d hd H6 R s6 kR => ?_) (fun d hd _ H6 R s6 kR => ⟨_, rfl, kR H6 (Same.refl _)⟩) fun H6 s6 hp => k H6 p (s2.trans s6) (s2.free np) ?_
    · obtain ⟨hm, o, b, hat⟩ := spots_mem hd
      obtain ⟨sw, r, h1⟩ := (dd.same (s2.trans s6)) d hm
      have ho6 := ho.same (s2.trans s6)
      exact ⟨_, rfl, ho6.ob.places T ⟨_, rfl, pl, _, ad, M, kvs, _, d, u, sw, r, rfl, ho6.tr, h1, isPut_of hat, _, rfl, kR H6 (Same.refl _)⟩⟩
    · rw [hp, row_isBy fun d e hd he => wf.uniq hd he]
      rfl
def sp_can_move : Sp := fun vs H Q _ => ∃ (p : Addr) (x : Nat) (ad : Nat → Addr) (kvs : List (Key × V)) (t : Sq28.Tree), vs = [.ref p, .int (x : Int)] ∧ PlAt ad H p kvs t ∧ Q (.bl (decide (2 ≤ x) && Sq28.there t x)) H
theorem ok_can_move (T : Txt K mg A D) : FnOk P w K mg base CX0 2 A.f_can_move D.d_can_move ["places", "thing"] sp_can_move := by
  refine T.f_can_move.ok sc_can_move (fun vs H Q E h => ?_) (fun cdv ar outer s H vs Q E hr h => have hu := hu_of hr; ⟨_, (pss_one (ps_ret (pe_and (pe_cmpR op_ne (pv 1) (pe_glob (v := .int (0)) (by rfl) (Classical.choose_spec T.g_ROOT) ⟨_, rfl⟩) (nomark _)) (pe_and (pe_cmpR op_ne (pv 1) (pe_glob (v := .int (1)) (by rfl) (Classical.choose_spec T.g_BIN) ⟨_, rfl⟩) (nomark _)) (pe_one (pe_call (ok_is_there T) (by exact hr.mono (by decide)) (by rfl) T.m_is_there T.f_is_there.kp T.b_is_there .nil pass0 (pa_cons (pv 0) (pa_cons (pv 1) pa_nil)))))))), ?_⟩)
  · obtain ⟨p, x, ad, kvs, t, rfl, _⟩ := h; rfl
  · obtain ⟨p, x, ad, kvs, t, rfl, h1, k⟩ := h
    have e0 : decide (V.int (x : Int) = V.int 0) = (x == 0) := dec_int x 0
    have e1 : decide (V.int (x : Int) = V.int 1) = (x == 1) := dec_int x 1
    refine ⟨_, rfl, rfl, _, rfl, ?_⟩
    rw [e0]
    match x, k, e1 with
    | 0, k, e1 => exact iteF k
    | 1, k, e1 =>
      refine iteT ⟨_, rfl, rfl, _, rfl, ?_⟩
      rw [e1]
      exact iteF k
    | x + 2, k, e1 =>
      refine iteT ⟨_, rfl, rfl, _, rfl, ?_⟩
      rw [e1]
      refine iteT ⟨_, rfl, _, rfl, p, x + 2, ad, kvs, t, rfl, h1, ?_⟩
      have : decide (2 ≤ x + 2) = true := decide_eq_true (by omega)
      rw [this, Bool.true_and] at k
      exact k
def sp_put_behind (A : Ad) : Sp := fun vs H Q _ => ∃ (a dl hl pl ra : Addr) (x u i : Nat) (kvs : List (Key × V)) (l r : List Sq36.Deed) (ad : Nat → Addr) (M : Addr → Prop), vs = [.ref a, .int (x : Int), .int (u : Int), .ref ra, .int (i : Int)] ∧ OutAt A M ad H a l dl hl pl kvs ∧ Dd A M ad H l ∧ Wf l ∧ H ra = some (.lst (rfs ad r)) ∧ (∀ d ∈ r, d ∈ Sq36.spots l u) ∧ i ≤ r.length ∧
  ∀ (H' : Hp) (p : Addr), Same H H' → H p = none → ActAt A H' p (.put x u (Sq36.spotIn l u r i).1 (Sq36.spotIn l u r i).2) → Q (.ref p) H'
theorem ok_put_behind (T : Txt K mg A D) : FnOk P w K mg base CX0 4 A.f_put_behind D.d_put_behind ["outline", "thing", "under", "row", "i"] (sp_put_behind A) := by
  refine T.f_put_behind.ok sc_put_behind (fun vs H Q E h => ?_) (fun cdv ar outer s H vs Q E hr h => have hu := hu_of hr; ⟨_, (pss_cons (ps_set (i := 5) sc_put_behind.nd rfl (Or.inl rfl) (pe_glob (v := .int (-1)) (by rfl) (Classical.choose_spec T.g_BEGINNING) ⟨_, rfl⟩))
    (pss_cons (ps_if (pt_cmpR op_gt (pv 4) pe_int (nomark _))
      (pss_one (ps_set (i := 5) sc_put_behind.nd rfl (Or.inl rfl) (pe_fld (pe_ix ix_list (pv 3) (pe_op op_sub (pv 4) pe_int) (by exact fun _ _ => rfl)) (by rfl))))
      pss_nil)
    (pss_cons (ps_set (i := 6) sc_put_behind.nd rfl (Or.inl rfl) (pe_call (ok_right_behind T) (by exact hr.mono (by decide)) (by rfl) T.m_right_behind T.f_right_behind.kp T.b_right_behind .nil pass0 (pa_cons (pe_fld (pv 0) (by rfl)) (pa_cons (pv 2) (pa_cons (pv 5) pa_nil)))))
    (pss_one (ps_ret (pe_make T.mk_Put (ok_Put_init T) (by exact hr.mono (by decide)) (by rfl) T.c_Put T.b_Put_init .nil pass0 (pa_cons (pv 1) (pa_cons (pv 2) (pa_cons (pe_ix ix_tup (pv 6) pe_int (by exact fun _ _ => rfl)) (pa_cons (pe_ix ix_tup (pv 6) pe_int (by exact fun _ _ => rfl)) pa_nil)))))))))), ?_⟩)
  · obtain ⟨a, dl, hl, pl, ra, x, u, i, kvs, l, r, ad, M, rfl, _⟩ := h; rfl
  · obtain ⟨a, dl, hl, pl, ra, x, u, i, kvs, l, r, ad, M, rfl, ho, dd, wf, hra, hsub, hi, k⟩ := h
    -- what follows once the spot is known
    have go : ∀ (o : Option Nat), Sq36.spotIn l u r i = Sq36.behind l u o → (∀ s, o = some s → ∃ d ∈ Sq36.spots l u, d.id = s) → ∀ (H' : Hp) (t : Addr), Same H H' → H' t = some (.tup [.int (enc (Sq36.behind l u o).1), .int (sideI (Sq36.behind l u o).2)]) →
        tRet (tMake A.Put (sp_Put_init A) [] E0 (tCons (tVar 1) (tCons (tVar 2) (tCons (tOp (rIxT K) (tVar 6) (tC (.int 0))) (tCons (tOp (rIxT K) (tVar 6) (tC (.int 1))) tNil))))) { nx := fun _ H' => Q .non H', rt := Q } [some (.ref a), some (.int (x : Int)), some (.int (u : Int)), some (.ref ra), some (.int (i : Int)), some (.int (enc o)), some (.ref t)] H' := by
      intro o eo _ H' t s' ht
      refine ⟨_, rfl, _, rfl, _, rfl, t, _, _, _, rfl, rfl, .of ht, rfl, _, rfl, t, _, _, _, rfl, rfl, .of ht, rfl, mk_Put fun p H2 np s2 h2 => k H2 p (s'.trans s2) (s'.free np) ?_⟩
      rw [eo]
      exact h2
    refine ⟨_, rfl, _, _, rfl, rfl, _, rfl, ?_⟩
    cases i with
    | zero =>
      refine iteF ⟨_, rfl, ho.ob.deeds T ⟨_, rfl, _, rfl, dl, u, none, l, ad, M, rfl, ho.dl, dd, wf, (fun s z => by cases z), fun H' t s' ht => go none rfl (fun s z => by cases z) H' t s' ht⟩⟩
    | succ i =>
      have hlt : i < r.length := by omega
      have hget : r[i]? = some r[i] := List.getElem?_eq_getElem hlt
      have hm : r[i] ∈ r := List.getElem_mem hlt
      obtain ⟨sw, rr, h1⟩ := dd r[i] (spots_mem (hsub _ hm)).1
      have eo : Sq36.spotIn l u r (i + 1) = Sq36.behind l u (some r[i].id) := by
        unfold Sq36.spotIn
        rw [if_neg (by omega), Nat.add_sub_cancel, hget]
        rfl
      have hs : ∀ s, some r[i].id = some s → ∃ d ∈ Sq36.spots l u, d.id = s := fun s z => ⟨r[i], hsub _ hm, Option.some.inj z⟩
      have pos : decide ((0 : Int) < ((i + 1 : Nat) : Int)) = true := decide_eq_true (by omega)
      rw [pos]
      refine iteT ⟨_, rfl, _, rfl, _, _, rfl, rfl, ra, _, _, _, rfl, rfl, .of hra, ?_, h1.ob.number T ?_⟩
      · have : ((i + 1 : Nat) : Int) - 1 = ((i : Nat) : Int) := by omega
        rw [this]
        exact atI_nat (by unfold rfs; rw [List.getElem?_map, hget]; rfl)
      · exact ⟨_, rfl, ho.ob.deeds T ⟨_, rfl, _, rfl, dl, u, some r[i].id, l, ad, M, rfl, ho.dl, dd, wf, hs, fun H' t s' ht => go (some r[i].id) eo hs H' t s' ht⟩⟩
end
end Ho
end

section
set_option Elab.async false
set_option maxRecDepth 100000
set_option maxHeartbeats 4000000
/-! things_in_row, within, counted, counted_pairs -/
namespace Ho
open PySem PySem.W PyProof.Rows L2
/-- pairs in the heap, each by its address -/
abbrev Prs := List (Addr × (Nat × Nat))
def pv2 (zs : Prs) : List V := zs.map fun z => V.ref z.1
def PrAt (H : Hp) (zs : Prs) : Prop := ∀ z ∈ zs, H z.1 = some (.tup [.int (z.2.1 : Int), .int (z.2.2 : Int)])
theorem PrAt.same {H H' : Hp} {zs : Prs} (p : PrAt H zs) (s : Same H H') : PrAt H' zs := fun z hz => s _ _ (p z hz)
theorem PrAt.app {H : Hp} {a b : Prs} (p : PrAt H a) (q : PrAt H b) : PrAt H (a ++ b) := fun z hz => (List.mem_append.mp hz).elim (p z) (q z)
theorem PrAt.away {H H' : Hp} {zs : Prs} {l : Addr} {xs : List V} (p : PrAt H zs) (hl : H l = some (.lst xs)) (o : ∀ b, b ≠ l → H' b = H b) : PrAt H' zs := fun z hz => by
  rw [o _ (fun e => by have := p z hz; rw [e, hl] at this; cases this)]
  exact p z hz
theorem ifT {b : Bool} {p q : Prop} (e : b = true) (h : p) : if b = true then p else q := by rw [if_pos e]; exact h
theorem ifF {b : Bool} {p q : Prop} (e : b = false) (h : q) : if b = true then p else q := by rw [if_neg (by rw [e]; exact Bool.false_ne_true)]; exact h
theorem piled_len (l : List Sq36.Deed) (t : Sq28.Tree) (st : List (Nat × Nat)) : st.length ≤ (piled l t st).length := by
  induction st with
  | nil => exact Nat.zero_le _
  | cons y st ih =>
    unfold piled at ih ⊢
    rw [List.flatMap_cons, List.length_append, List.length_cons, List.length_cons]
    omega
section
variable {P : Program} {w : World} {K : PySem.W.Frag} {mg : Str → Option Value} {base : Heap} {A : Ad} {D : Fd}
def rowThings (l : List Sq36.Deed) (u : Nat) : List Nat := (Sq36.row l (Sq36.treeOf l) u).map fun d => d.thing
theorem row_len {l : List Sq36.Deed} (wf : Wf l) (u : Nat) : (Sq36.row l (Sq36.treeOf l) u).length ≤ 100 := by
  have h1 := List.length_filter_le (fun d => match Sq28.get (Sq36.treeOf l) d.thing with | some q => q.under == u && q.label == d.id | none => false) (Sq36.spots l u)
  have h2 := spots_len wf.ordered wf.ids u
  have h3 := wf.len
  have : (Sq36.row l (Sq36.treeOf l) u).length ≤ (Sq36.spots l u).length := h1
  omega
def sp_things_in_row (A : Ad) : Sp := fun vs H Q _ => ∃ (a dl hl pl : Addr) (u : Nat) (kvs : List (Key × V)) (l : List Sq36.Deed) (ad : Nat → Addr) (M : Addr → Prop), vs = [.ref a, .int (u : Int)] ∧ OutAt A M ad H a l dl hl pl kvs ∧ Dd A M ad H l ∧ Wf l ∧
  ∀ (H' : Hp) (q : Addr), Same H H' → H q = none → H' q = some (.lst (nums (rowThings l u))) → Q (.ref q) H'
theorem ok_things_in_row (T : Txt K mg A D) : FnOk P w K mg base CX0 4 A.f_things_in_row D.d_things_in_row ["outline", "under"] (sp_things_in_row A) := by
  refine T.f_things_in_row.ok sc_things_in_row (fun vs H Q E h => ?_) (fun cdv ar outer s H vs Q E hr h => have hu := hu_of hr; ⟨_, (pss_one (ps_ret (pe_lc (own := [("put", 2)]) (g := gName 2) (tt := tYes) (by rfl) sc_things_in_row.nd (pi_list (pe_call (ok_row_of T) (by exact hr.mono (by decide)) (by rfl) T.m_row_of T.f_row_of.kp T.b_row_of .nil pass0 (pa_cons (pv 0) (pa_cons (pv 1) pa_nil)))) (blkOk_by (own := [("put", 2)]) (N := N_things_in_row) (sc := defScope s_things_in_row) (by decide +kernel)) (fun _ _ _ _ _ => pg_name (i := 2) sc_things_in_row.nd rfl (Or.inl rfl)) (fun _ _ _ _ _ => pts_nil) (fun _ _ _ _ _ => (by exact (pe_fldK (K := K) (by rfl) (pe_fldK (K := K) (by rfl) (pv 2) (by rfl)) (by rfl))))))), ?_⟩)
  · obtain ⟨a, dl, hl, pl, u, kvs, l, ad, M, rfl, _⟩ := h; rfl
  · obtain ⟨a, dl, hl, pl, u, kvs, l, ad, M, rfl, ho, dd, wf, k⟩ := h
    refine ⟨_, rfl, _, rfl, a, dl, hl, pl, u, kvs, l, ad, M, rfl, ho, dd, wf, fun H1 q s1 n1 hq => ⟨q, rfl, ⟨_, .of hq⟩, fun p np => ?_⟩⟩
    refine lc_pick (K := K) (a := q) (l := Sq36.row l (Sq36.treeOf l) u) (f := rf ad) (i := 2) (fun _ => true) (fun d => V.int (d.thing : Int)) np (.of hq) (by have := row_len wf u; omega) (fun d hd H6 R s6 kR => kR H6 (Same.refl _)) (fun d hd _ H6 R s6 kR => ?_) fun H6 s6 hp => k H6 p (s1.trans s6) (s1.free np) ?_
    · obtain ⟨hm, o, b, hat⟩ := spots_mem (row_spots hd)
      obtain ⟨x, o', b', hact⟩ := put_of (isPut_of hat)
      obtain ⟨sw, r, h1⟩ := (dd.same (s1.trans s6)) d hm
      have h1a := h1.act
      rw [hact] at h1a
      have k6 := kR H6 (Same.refl _)
      have th : d.thing = x := by unfold Sq36.Deed.thing; rw [hact]
      rw [th] at k6
      exact ⟨_, rfl, h1.ob.act T (obPut.thing T h1a k6)⟩
    · rw [hp, filter_yes]
      unfold nums rowThings
      rw [List.map_map]
      rfl
/-! ### within -/
def sp_within (A : Ad) : Sp := fun vs H Q _ => ∃ (a dl hl pl : Addr) (x : Nat) (kvs : List (Key × V)) (l : List Sq36.Deed) (ad : Nat → Addr) (M : Addr → Prop), vs = [.ref a, .int (x : Int)] ∧ OutAt A M ad H a l dl hl pl kvs ∧ Dd A M ad H l ∧ Wf l ∧
  ∀ (H' : Hp) (q : Addr) (zs : Prs), Same H H' → H q = none → H' q = some (.lst (pv2 zs)) → PrAt H' zs → zs.map (·.2) = Sq36.within l x → (∀ z ∈ zs, H z.1 = none) → Q (.ref q) H'
set_option maxHeartbeats 8000000 in
theorem ok_within (T : Txt K mg A D) : FnOk P w K mg base CX0 5 A.f_within D.d_within ["outline", "thing"] (sp_within A) := by
  refine T.f_within.ok sc_within (fun vs H Q E h => ?_) (fun cdv ar outer s H vs Q E hr h => have hu := hu_of hr; ⟨_, (pss_cons (ps_set (i := 2) sc_within.nd rfl (Or.inl rfl) (pe_lst pa_nil))
    (pss_cons (ps_set (i := 3) sc_within.nd rfl (Or.inl rfl) (pe_lst (pa_cons (pe_tup (pa_cons (pv 1) (pa_cons pe_int pa_nil))) pa_nil)))
    (pss_cons (ps_while PassesOwn.never (pt_cmpR op_gt (pe_callB call_len_seq (by rfl) T.n_len PySem.boot_len (pa_cons (pv 3) pa_nil)) pe_int (nomark _))
      (pss_cons (ps_set (i := 4) sc_within.nd rfl (Or.inl rfl) (pe_bm0 PySem.F.plainAttrs_list PySem.F.slot_list_pop PySem.F.type_list_pop mt_pop (pv 3)))
    (pss_cons (ps_expr (pe_bm PySem.F.plainAttrs_list PySem.F.slot_list_append PySem.F.type_list_append mt_append (pv 2) (pa_cons (pv 4) pa_nil)))
    (pss_one (ps_for PassesOwn.never rfl (pi_reversed (by rfl) T.n_reversed (pa_cons (pe_call (ok_things_in_row T) (by exact hr.mono (by decide)) (by rfl) T.m_things_in_row T.f_things_in_row.kp T.b_things_in_row .nil pass0 (pa_cons (pv 0) (pa_cons (pe_ix ix_tup (pv 4) pe_int (by exact fun _ _ => rfl)) pa_nil))) pa_nil)) (pg_name (i := 5) sc_within.nd rfl (Or.inl rfl))
      (pss_one (ps_expr (pe_bm PySem.F.plainAttrs_list PySem.F.slot_list_append PySem.F.type_list_append mt_append (pv 3) (pa_cons (pe_tup (pa_cons (pv 5) (pa_cons (pe_op op_add (pe_ix ix_tup (pv 4) pe_int (by exact fun _ _ => rfl)) pe_int) pa_nil))) pa_nil)))))))))
    (pss_one (ps_ret (pe_slice sl_list (pv 2) (po_some pe_int) po_none)))))), ?_⟩)
  · obtain ⟨a, dl, hl, pl, x, kvs, l, ad, M, rfl, _⟩ := h; rfl
  · obtain ⟨a, dl, hl, pl, x, kvs, l, ad, M, rfl, ho, dd, wf, k⟩ := h
    have g := grounded_treeOf l
    obtain ⟨t, et⟩ : ∃ t, t = Sq36.treeOf l := ⟨_, rfl⟩
    rw [← et] at g
    have all0 : piled l t [(x, 0)] = (x, 0) :: Sq36.within l x := by
      rw [et]
      unfold piled
      rw [List.flatMap_cons, List.flatMap_nil, List.append_nil, within_sub]
    have big : (piled l t [(x, 0)]).length ≤ 101 := by
      rw [all0, within_sub, List.length_cons]
      have h1 := sub_len wf 1 x
      have h2 := tree_len wf
      omega
    refine ⟨Nat.zero_le _, fun fp nfp => ?_⟩
    have s1 : Same H (upd H fp (.lst [])) := same_upd nfp
    have e1 : upd H fp (.lst []) fp = some (.lst []) := upd_same
    generalize upd H fp (.lst []) = H1 at s1 e1 ⊢
    refine ⟨_, rfl, by show 2 ≤ sizeLine; decide, fun tp ntp => ⟨by show 1 ≤ sizeLine; decide, fun wp nwp => ?_⟩⟩
    have s2 : Same H1 (upd H1 tp (.tup [.int (x : Int), .int 0])) := same_upd ntp
    have e2 : upd H1 tp (.tup [.int (x : Int), .int 0]) tp = some (.tup [.int (x : Int), .int 0]) := upd_same
    generalize upd H1 tp (.tup [.int (x : Int), .int 0]) = H2 at s2 e2 nwp ⊢
    have s3 : Same H2 (upd H2 wp (.lst [.ref tp])) := same_upd nwp
    have e3 : upd H2 wp (.lst [.ref tp]) wp = some (.lst [.ref tp]) := upd_same
    generalize upd H2 wp (.lst [.ref tp]) = H3 at s3 e3 ⊢
    have n0fp : H fp = none := nfp
    have n0wp : H wp = none := (s1.trans s2).free nwp
    have n0tp : H tp = none := s1.free ntp
    have fw : fp ≠ wp := fun z => by rw [← z, s2 _ _ e1] at nwp; cases nwp
    refine while_by (fun σ H' => ∃ (fs ws : Prs) (v4 v5 : Option V), σ = [some (.ref a), some (.int (x : Int)), some (.ref fp), some (.ref wp), v4, v5] ∧ Same H H' ∧ H' fp = some (.lst (pv2 fs)) ∧ H' wp = some (.lst (pv2 ws)) ∧ PrAt H' fs ∧ PrAt H' ws ∧ (∀ z ∈ fs, H z.1 = none) ∧ (∀ z ∈ ws, H z.1 = none) ∧ fs.map (·.2) ++ piled l t (ws.map (·.2)).reverse = piled l t [(x, 0)])
      (fun _ H' => (piled l t [(x, 0)]).length - lenAt fp H') ?_ ?_ ?_
    · refine ⟨[], [(tp, (x, 0))], none, none, rfl, s1.trans (s2.trans s3), s3 _ _ (s2 _ _ e1), e3, (fun z hz => by cases hz), (fun z hz => ?_), (fun z hz => by cases hz), (fun z hz => ?_), rfl⟩
      · rw [List.mem_singleton.mp hz]
        exact s3 _ _ e2
      · rw [List.mem_singleton.mp hz]
        exact n0tp
    · rintro σ H' ⟨fs, ws, v4, v5, rfl, s5, hf, hw, pf, pw, nf, nw, er⟩
      have ls := congrArg List.length er
      rw [List.length_append, List.length_map] at ls
      have lw := piled_len l t (ws.map (·.2)).reverse
      rw [List.length_reverse, List.length_map] at lw
      refine ⟨_, rfl, wp, _, rfl, .inl (.of hw), _, _, rfl, rfl, _, rfl, ?_⟩
      have wl : (pv2 ws).length = ws.length := by unfold pv2; rw [List.length_map]
      have fl : (pv2 fs).length = fs.length := by unfold pv2; rw [List.length_map]
      rw [wl]
      rcases List.eq_nil_or_concat ws with z | ⟨ws', z, e⟩
      · subst z
        have gz : decide ((0 : Int) < (([] : Prs).length : Int)) = false := by decide
        refine ifF gz ⟨_, rfl, _, rfl, fp, _, rfl, .of hf, fun p np => ?_⟩
        have er' : fs.map (·.2) = (x, 0) :: Sq36.within l x := by rw [← all0, ← er]; show _ = fs.map (·.2) ++ []; rw [List.append_nil]
        cases fs with
        | nil => cases er'
        | cons f0 fs' =>
          rw [List.map_cons] at er'
          injection er' with er1 er2
          have c1 : cutV (pv2 (f0 :: fs')) (some 1) none = pv2 fs' := by
            unfold cutV
            rw [fl, HT.sIx_none, show (1 : Int) = ((1 : Nat) : Int) from rfl, HT.sIx_nat, List.length_cons, Nat.min_eq_left (by omega)]
            show List.take _ (pv2 fs') = pv2 fs'
            refine List.take_of_length_le ?_
            unfold pv2
            rw [List.length_map]; omega
          have hp : upd H' p (.lst (cutV (pv2 (f0 :: fs')) (some 1) none)) p = some (.lst (pv2 fs')) := by rw [upd_same, c1]
          exact k _ p fs' (s5.trans (same_upd np)) (s5.free np) hp (fun z hz => same_upd np _ _ (pf z (List.mem_cons_of_mem _ hz))) er2 fun z hz => nf z (List.mem_cons_of_mem _ hz)
      rw [List.concat_eq_append] at e
      subst e
      have gz : decide ((0 : Int) < ((ws' ++ [z]).length : Int)) = true := decide_eq_true (by rw [List.length_append]; simp)
      have hy : (pv2 (ws' ++ [z]))[(pv2 (ws' ++ [z])).length - 1]? = some (.ref z.1) := by
        unfold pv2
        rw [List.map_append]
        simp
      refine ifT gz ⟨_, rfl, .inl ⟨rfl, _, .of hw⟩, wp, _, _, rfl, rfl, hw, hy, ?_⟩
      have dl1 : (pv2 (ws' ++ [z])).dropLast = pv2 ws' := by unfold pv2; rw [List.map_append]; simp
      rw [dl1]
      have o6 : ∀ b, b ≠ wp → upd H' wp (.lst (pv2 ws')) b = H' b := fun b hb => upd_ne hb
      have w6 : upd H' wp (.lst (pv2 ws')) wp = some (.lst (pv2 ws')) := upd_same
      have s6 : Same H (upd H' wp (.lst (pv2 ws'))) := same_upd2 s5 n0wp
      generalize upd H' wp (.lst (pv2 ws')) = H6 at o6 w6 s6 ⊢
      have f6 : H6 fp = some (.lst (pv2 fs)) := by rw [o6 _ fw]; exact hf
      have pf6 : PrAt H6 fs := pf.away hw o6
      have pw6 : PrAt H6 (ws' ++ [z]) := pw.away hw o6
      have lsz : fs.length + (ws'.length + 1) ≤ 101 := by rw [List.length_append, List.length_singleton] at lw; omega
      refine ⟨_, rfl, .inl ⟨rfl, _, .of f6⟩, _, rfl, fp, _, _, rfl, rfl, f6, small_of (by rw [fl]; omega), ?_⟩
      have e7 : pv2 fs ++ [V.ref z.1] = pv2 (fs ++ [z]) := by unfold pv2; rw [List.map_append]; rfl
      rw [e7]
      have o7 : ∀ b, b ≠ fp → upd H6 fp (.lst (pv2 (fs ++ [z]))) b = H6 b := fun b hb => upd_ne hb
      have f7 : upd H6 fp (.lst (pv2 (fs ++ [z]))) fp = some (.lst (pv2 (fs ++ [z]))) := upd_same
      have s7 : Same H (upd H6 fp (.lst (pv2 (fs ++ [z])))) := same_upd2 s6 n0fp
      generalize upd H6 fp (.lst (pv2 (fs ++ [z]))) = H7 at o7 f7 s7 ⊢
      have w7 : H7 wp = some (.lst (pv2 ws')) := by rw [o7 _ (Ne.symm fw)]; exact w6
      have pf7 : PrAt H7 fs := pf6.away f6 o7
      have pw7 : PrAt H7 (ws' ++ [z]) := pw6.away f6 o7
      have pz7 := pw7 z (List.mem_append.mpr (.inr List.mem_cons_self))
      obtain ⟨za, zx, zd⟩ := z
      have er2 : (fs ++ [(za, zx, zd)]).map (·.2) ++ piled l t (kids l t (zd + 1) zx ++ (ws'.map (·.2)).reverse) = piled l t [(x, 0)] := by
        rw [← er, List.map_append, List.map_append, List.reverse_append]
        show _ = _ ++ piled l t ((zx, zd) :: (ws'.map (·.2)).reverse)
        rw [piled_cons g, List.append_assoc]
        rfl
      have ls2 := congrArg List.length er2
      rw [List.length_append, List.length_map, List.length_append, List.length_singleton] at ls2
      have lk := piled_len l t (kids l t (zd + 1) zx ++ (ws'.map (·.2)).reverse)
      rw [List.length_append, List.length_reverse, List.length_map] at lk
      have kl : (kids l t (zd + 1) zx).length = (rowThings l zx).length := by unfold kids rowThings; rw [List.length_map, List.length_map, et]
      refine ⟨_, rfl, _, rfl, za, _, _, _, rfl, rfl, .of pz7, rfl, a, dl, hl, pl, zx, kvs, l, ad, M, rfl, ho.same s7, dd.same s7, wf, fun H8 rp s8 nr hrp => ?_⟩
      have nr0 : H rp = none := s7.free nr
      have rpw : rp ≠ wp := fun q => by rw [q, w7] at nr; cases nr
      refine ⟨rp, _, rfl, .of hrp, RT.for_Itv (K := K) (a := rp) (xs := nums (rowThings l zx)) (fun i σ H9 => ∃ (ks : Prs) (v5 : Option V), σ = [some (.ref a), some (.int (x : Int)), some (.ref fp), some (.ref wp), some (.ref za), v5] ∧ Same H H9 ∧ H9 rp = some (.lst (nums (rowThings l zx))) ∧ H9 fp = some (.lst (pv2 (fs ++ [(za, zx, zd)]))) ∧ H9 wp = some (.lst (pv2 (ws' ++ ks))) ∧
          PrAt H9 fs ∧ PrAt H9 (ws' ++ [(za, zx, zd)]) ∧ PrAt H9 ks ∧ (∀ z ∈ ks, H z.1 = none) ∧ ks.map (·.2) = ((rowThings l zx).reverse.take i).map fun y => (y, zd + 1))
        ⟨[], _, rfl, s7.trans s8, hrp, s8 _ _ f7, (by rw [List.append_nil]; exact s8 _ _ w7), pf7.same s8, pw7.same s8, (fun z hz => by cases hz), (fun z hz => by cases hz), rfl⟩ (fun i σ H' ⟨_, _, _, _, z, _⟩ => .of z) ?_ ?_⟩
      · rintro i v σ H9 hi hx ⟨ks, v5, rfl, s9, hr9, f9, w9, pf9, pw9, pk9, nk9, ek⟩
        rw [nums_len] at hi hx
        have lks := congrArg List.length ek
        rw [List.length_map, List.length_map, List.length_take, List.length_reverse] at lks
        obtain ⟨y, hy, rfl⟩ : ∃ y : Nat, (rowThings l zx)[(rowThings l zx).length - 1 - i]? = some y ∧ v = .int (y : Int) := by
          unfold nums at hx
          rw [List.getElem?_map] at hx
          cases q : (rowThings l zx)[(rowThings l zx).length - 1 - i]? with
          | none => rw [q] at hx; cases hx
          | some y => rw [q] at hx; exact ⟨y, rfl, (Option.some.inj hx).symm⟩
        have hrev : (rowThings l zx).reverse[i]? = some y := by rw [List.getElem?_reverse hi]; exact hy
        have pz9 := pw9 (za, zx, zd) (List.mem_append.mpr (.inr List.mem_cons_self))
        refine ⟨_, rfl, .inl ⟨rfl, _, .of w9⟩, _, rfl, _, rfl, za, _, _, _, rfl, rfl, .of pz9, rfl, _, _, rfl, rfl, by show 2 ≤ sizeLine; decide, fun kp nkp => ?_⟩
        have e10 : upd H9 kp (.tup [.int (y : Int), .int ((zd : Int) + 1)]) kp = some (.tup [.int (y : Int), .int ((zd + 1 : Nat) : Int)]) := upd_same
        have s10 : Same H9 (upd H9 kp (.tup [.int (y : Int), .int ((zd : Int) + 1)])) := same_upd nkp
        generalize upd H9 kp (.tup [.int (y : Int), .int ((zd : Int) + 1)]) = H10 at e10 s10 ⊢
        have w10 := s10 _ _ w9
        refine ⟨wp, _, _, rfl, rfl, w10, small_of (by unfold pv2; rw [List.length_map, List.length_append]; omega), ?_⟩
        have e11 : pv2 (ws' ++ ks) ++ [V.ref kp] = pv2 (ws' ++ (ks ++ [(kp, y, zd + 1)])) := by unfold pv2; simp
        rw [e11]
        have o11 : ∀ b, b ≠ wp → upd H10 wp (.lst (pv2 (ws' ++ (ks ++ [(kp, y, zd + 1)])))) b = H10 b := fun b hb => upd_ne hb
        refine ⟨ks ++ [(kp, y, zd + 1)], _, rfl, same_upd2 (s9.trans s10) n0wp, (by rw [o11 _ rpw]; exact s10 _ _ hr9), (by rw [o11 _ fw]; exact s10 _ _ f9), upd_same, (pf9.same s10).away w10 o11, (pw9.same s10).away w10 o11, ?_, ?_, ?_⟩
        · refine PrAt.app ((pk9.same s10).away w10 o11) fun z hz => ?_
          rw [List.mem_singleton.mp hz, o11 kp (fun q => by rw [q, w10] at e10; cases e10)]
          exact e10
        · intro z hz
          rcases List.mem_append.mp hz with hz | hz
          · exact nk9 z hz
          · rw [List.mem_singleton.mp hz]; exact s9.free nkp
        · rw [List.map_append, ek, take_snoc hrev, List.map_append]
          rfl
      · rintro σ H9 ⟨ks, v5, rfl, s9, hr9, f9, w9, pf9, pw9, pk9, nk9, ek⟩
        rw [nums_len, List.take_of_length_le (by rw [List.length_reverse]; exact Nat.le_refl _)] at ek
        have pfz : PrAt H9 (fs ++ [(za, zx, zd)]) := pf9.app fun z hz => by
          rw [List.mem_singleton.mp hz]
          exact pw9 (za, zx, zd) (List.mem_append.mpr (.inr List.mem_cons_self))
        have nz : H za = none := nw (za, zx, zd) (List.mem_append.mpr (.inr List.mem_cons_self))
        refine ⟨⟨fs ++ [(za, zx, zd)], ws' ++ ks, _, _, rfl, s9, f9, w9, pfz, PrAt.app (fun z hz => pw9 z (List.mem_append.mpr (.inl hz))) pk9, ?_, ?_, ?_⟩, ?_⟩
        · intro z hz
          rcases List.mem_append.mp hz with hz | hz
          · exact nf z hz
          · rw [List.mem_singleton.mp hz]; exact nz
        · intro z hz
          rcases List.mem_append.mp hz with hz | hz
          · exact nw z (List.mem_append.mpr (.inl hz))
          · exact nk9 z hz
        · rw [← er2, List.map_append (l₁ := ws'), List.reverse_append, ek]
          congr 2
          rw [← List.map_reverse, List.reverse_reverse]
          congr 1
          unfold kids rowThings
          rw [List.map_map, et]
          rfl
        · rw [lenAt_eq f9, lenAt_eq hf, fl]
          unfold pv2
          rw [List.length_map, List.length_append, List.length_singleton]
          omega
    · intro σ H Q Q' hq h
      obtain ⟨v, e, a, xs, e3, sq, i, j, e4, e5, c, e6, h7⟩ := h
      exact ⟨v, e, a, xs, e3, sq, i, j, e4, e5, c, e6, hq _ _ h7⟩
/-! ### counted, counted_pairs -/
def sp_counted (K : PySem.W.Frag) : Sp := fun vs H Q _ => ∃ (a : Addr) (xs : List V), vs = [.ref a] ∧ H a = some (.lst xs) ∧ xs.length ≤ 1000 ∧
  ∀ (H' : Hp) (p : Addr), Same H H' → H p = none → H' p = some (.lst (.int (xs.length : Int) :: xs)) → Q (.ref p) H'
theorem ok_counted (T : Txt K mg A D) : FnOk P w K mg base CX0 1 A.f_counted D.d_counted ["numbers"] (sp_counted K) := by
  refine T.f_counted.ok sc_counted (fun vs H Q E h => ?_) (fun cdv ar outer s H vs Q E hr h => have hu := hu_of hr; ⟨_, (pss_one (ps_ret (pe_op op_cat (pe_lst (pa_cons (pe_callB call_len_seq (by rfl) T.n_len PySem.boot_len (pa_cons (pv 0) pa_nil)) pa_nil)) (pv 0)))), ?_⟩)
  · obtain ⟨a, xs, rfl, _⟩ := h; rfl
  · obtain ⟨a, xs, rfl, ha, len, k⟩ := h
    refine ⟨_, rfl, a, _, rfl, .inl (.of ha), by show 1 ≤ sizeLine; decide, fun p1 n1 => ⟨_, rfl, p1, a, _, _, rfl, rfl, upd_same, same_upd n1 _ _ ha, Nat.le_of_lt (small_of (by show 1 + _ ≤ 2000; omega)), fun p2 n2 => ?_⟩⟩
    exact k _ p2 ((same_upd n1).trans (same_upd n2)) ((same_upd n1).free n2) upd_same
def flatPairs (zs : List (Nat × Nat)) : List V := nums (zs.flatMap fun y => [y.1, y.2])
def sp_counted_pairs : Sp := fun vs H Q _ => ∃ (a : Addr) (zs : Prs), vs = [.ref a] ∧ H a = some (.lst (pv2 zs)) ∧ PrAt H zs ∧ zs.length ≤ 500 ∧
  ∀ (H' : Hp) (p : Addr), Same H H' → H p = none → H' p = some (.lst (.int (zs.length : Int) :: flatPairs (zs.map (·.2)))) → Q (.ref p) H'
theorem ok_counted_pairs (T : Txt K mg A D) : FnOk P w K mg base CX0 1 A.f_counted_pairs D.d_counted_pairs ["pairs"] sp_counted_pairs := by
  refine T.f_counted_pairs.ok sc_counted_pairs (fun vs H Q E h => ?_) (fun cdv ar outer s H vs Q E hr h => have hu := hu_of hr; ⟨_, (pss_cons (ps_set (i := 1) sc_counted_pairs.nd rfl (Or.inl rfl) (pe_lst (pa_cons (pe_callB call_len_seq (by rfl) T.n_len PySem.boot_len (pa_cons (pv 0) pa_nil)) pa_nil)))
    (pss_cons (ps_for PassesOwn.never rfl (pi_list (pv 0)) (pg_name (i := 2) sc_counted_pairs.nd rfl (Or.inl rfl))
      (pss_one (ps_expr (pe_bm PySem.F.plainAttrs_list PySem.F.slot_list_extend PySem.F.type_list_extend mt_extendT (pv 1) (pa_cons (pv 2) pa_nil)))))
    (pss_one (ps_ret (pv 1))))), ?_⟩)
  · obtain ⟨a, zs, rfl, _⟩ := h; rfl
  · obtain ⟨a, zs, rfl, ha, pr, len, k⟩ := h
    refine ⟨_, rfl, a, _, rfl, .inl (.of ha), by show 1 ≤ sizeLine; decide, fun p1 n1 => ?_⟩
    have pl : (pv2 zs).length = zs.length := by unfold pv2; rw [List.length_map]
    rw [pl]
    have s1 : Same H (upd H p1 (.lst [.int (zs.length : Int)])) := same_upd n1
    refine ⟨_, rfl, a, rfl, ⟨_, .of (s1 _ _ ha)⟩, for_list (K := K) (a := a) (xs := pv2 zs) (fun i σ H' => ∃ v : Option V, σ = [some (.ref a), some (.ref p1), v] ∧ Same H H' ∧ H' p1 = some (.lst (.int (zs.length : Int) :: flatPairs ((zs.take i).map (·.2)))))
      ⟨none, rfl, s1, upd_same⟩ (fun i σ H' _ ⟨_, _, s5, _⟩ => s5.seq (.of ha)) ?_ ?_⟩
    · rintro i x σ H' hx ⟨v, rfl, s5, h1⟩
      obtain ⟨z, hz, rfl⟩ : ∃ z, zs[i]? = some z ∧ x = .ref z.1 := by
        unfold pv2 at hx
        rw [List.getElem?_map] at hx
        cases q : zs[i]? with
        | none => rw [q] at hx; cases hx
        | some z => rw [q] at hx; exact ⟨z, rfl, (Option.some.inj hx).symm⟩
      have hi : i < zs.length := (List.getElem?_eq_some_iff.mp hz).1
      have pz := s5 _ _ (pr z (List.mem_of_getElem? hz))
      have fl : ∀ l : List (Nat × Nat), (flatPairs l).length = 2 * l.length := by
        intro l
        unfold flatPairs
        rw [nums_len]
        induction l with
        | nil => rfl
        | cons y l ih => rw [List.flatMap_cons, List.length_append, ih, List.length_cons]; simp; omega
      refine ⟨_, rfl, .inl ⟨rfl, _, .of h1⟩, _, rfl, p1, z.1, _, _, rfl, rfl, h1, .of pz, ?_, ?_⟩
      · rw [List.length_cons, fl, List.length_map, List.length_take]
        exact Nat.le_of_lt (small_of (by show _ + 2 ≤ 2000; omega))
      · refine ⟨_, rfl, same_upd2 s5 n1, ?_⟩
        rw [upd_same, take_snoc hz, List.map_append]
        unfold flatPairs nums
        rw [List.flatMap_append, List.map_append]
        rfl
    · rintro σ H' ⟨v, rfl, s5, h1⟩
      rw [pl, List.take_length] at h1
      exact ⟨_, rfl, k H' p1 s5 n1 h1⟩
end
end Ho
end

section
set_option Elab.async false
set_option maxRecDepth 100000
set_option maxHeartbeats 4000000
/-! The house in the heap; what is read of it. -/
namespace Ho
open PySem PySem.W PyProof.Rows L2
/-- where the house's parts lie -/
structure Cells where
  hs : Addr
  dk : Addr
  dl : Addr
  lt : Addr
  da : Nat → Addr
  ca : Nat → Addr
  sa : Nat → Addr
  ha : Nat → Addr
  fa : Nat → Addr
  sr : Nat → Nat → Addr
  ad : Nat → Addr
  la : Nat → Addr
  lc : Nat → Addr
  ln : Nat → Addr
  fr : Addr → Prop
/-- what the house's calls may write, each by its name -/
inductive Slot where
  | hs
  | dl
  | lt
  | da (k : Nat)
  | ca (k : Nat)
  | sa (k : Nat)
  | ha (k : Nat)
  | fa (k : Nat)
def Slot.In (n : Nat) : Slot → Prop
  | .da k => k < n
  | .ca k => k < n
  | .sa k => k < n
  | .ha k => k < n
  | .fa k => k < n
  | _ => True
def Cells.sl (c : Cells) : Slot → Addr
  | .hs => c.hs
  | .dl => c.dl
  | .lt => c.lt
  | .da k => c.da k
  | .ca k => c.ca k
  | .sa k => c.sa k
  | .ha k => c.ha k
  | .fa k => c.fa k
/-- what the house's calls may write -/
def Cells.M0 (c : Cells) (n : Nat) (a : Addr) : Prop := ∃ s : Slot, s.In n ∧ a = c.sl s
/-- what may be written, by others too -/
def Cells.M (c : Cells) (n : Nat) (a : Addr) : Prop := c.M0 n a ∨ c.fr a
theorem Cells.inM (c : Cells) {n : Nat} (s : Slot) (h : s.In n) : c.M0 n (c.sl s) := ⟨s, h, rfl⟩
theorem Keep.up {c : Cells} {n : Nat} {H H' : Hp} (k : Keep (c.M0 n) H H') : Keep (c.M n) H H' := fun b o nb e => k b o (fun z => nb (.inl z)) e
def refs (f : Nat → Addr) (n : Nat) : List V := (List.range n).map fun i => V.ref (f i)
theorem refs_get {f : Nat → Addr} {n i : Nat} (h : i < n) : (refs f n)[i]? = some (.ref (f i)) := by
  unfold refs
  rw [List.getElem?_map, List.getElem?_range h]
  rfl
theorem refs_len (f : Nat → Addr) (n : Nat) : (refs f n).length = n := by
  unfold refs
  rw [List.length_map, List.length_range]
theorem nums_get {l : List Nat} {i : Nat} (h : i < l.length) : (nums l)[i]? = some (.int ((Sq36.at_ l i : Nat) : Int)) := by
  unfold nums Sq36.at_
  rw [List.getElem?_map, List.getElem?_eq_getElem h]
  rfl
structure DeskAt (A : Ad) (c : Cells) (H : Hp) (n k : Nat) (x : Sq36.Desk) : Prop where
  ob : obDesk A H (c.da k) (.int (x.clock : Int)) (.ref (c.ca k)) (.ref (c.sa k)) (.ref (c.ha k)) (.ref (c.fa k))
  ca : H (c.ca k) = some (.lst (nums x.has))
  sa : H (c.sa k) = some (.lst (refs (c.sr k) n))
  ha : H (c.ha k) = some (.lst (nums x.heard))
  sr : ∀ j, j < n → H (c.sr k j) = some (.lst (nums ((x.sure[j]?).getD [])))
  nsr : ∀ j, j < n → ¬ c.M n (c.sr k j)
/-- what is forgotten, as a dict -/
def FaAt (H : Hp) (a : Addr) (l : List Sq36.Deed) : Prop := ∃ kvs : List (Key × V), H a = some (.dK kvs) ∧ kvs.length = l.length ∧ ∀ x : Nat, (valV kvs (Sum.inl (x : Int))).isSome = l.any fun d => d.id == x
structure LetterAt (A : Ad) (c : Cells) (H : Hp) (n i : Nat) (m : Sq36.Letter) (ns : List V) : Prop where
  ob : obLetter A H (c.la i) (.int (m.from_ : Int)) (.int (m.to : Int)) (.ref (c.lc i)) (.int (m.clock : Int)) (.ref (c.ln i))
  lc : H (c.lc i) = some (.lst (nums m.has))
  ln : H (c.ln i) = some (.lst ns)
  nla : ¬ c.M n (c.la i)
  nlc : ¬ c.M n (c.lc i)
  nln : ¬ c.M n (c.ln i)
/-- what may be written lies apart -/
structure Apart (c : Cells) (n : Nat) : Prop where
  inj : ∀ s t : Slot, s.In n → t.In n → c.sl s = c.sl t → s = t
  fr : ∀ b, c.fr b → ¬ c.M0 n b
theorem Apart.ne {c : Cells} {n : Nat} (a : Apart c n) (s t : Slot) (hs : s.In n) (ht : t.In n) (h : s ≠ t) : c.sl s ≠ c.sl t := fun e => h (a.inj s t hs ht e)
theorem Apart.h1 {c : Cells} {n : Nat} (a : Apart c n) : c.hs ≠ c.dl := a.ne .hs .dl trivial trivial (fun z => by cases z)
theorem Apart.h2 {c : Cells} {n : Nat} (a : Apart c n) : c.hs ≠ c.lt := a.ne .hs .lt trivial trivial (fun z => by cases z)
theorem Apart.h3 {c : Cells} {n : Nat} (a : Apart c n) : c.dl ≠ c.lt := a.ne .dl .lt trivial trivial (fun z => by cases z)
/-- a desk's own cells -/
def Slot.of (k : Nat) : Slot → Prop
  | .da j => j = k
  | .ca j => j = k
  | .sa j => j = k
  | .ha j => j = k
  | .fa j => j = k
  | _ => False
structure HouseAt (A : Ad) (c : Cells) (H : Hp) (h : Sq36.House) : Prop where
  ok : Ok h
  ob : obHouse A H c.hs (.ref c.dk) (.ref c.dl) (.ref c.lt) (.int (h.things : Int))
  dk : H c.dk = some (.lst (refs c.da h.hands))
  ndk : ¬ c.M h.hands c.dk
  dl : H c.dl = some (.lst (rfs c.ad h.all))
  dd : Dd A (c.M h.hands) c.ad H h.all
  lt : H c.lt = some (.lst (refs c.la h.letters.length))
  desk : ∀ k, k < h.hands → DeskAt A c H h.hands k (h.desk k)
  letter : ∀ i m, h.letters[i]? = some m → ∃ ns, LetterAt A c H h.hands i m ns
  apart : Apart c h.hands
  frt : ∀ b, c.fr b → H b ≠ none
  late : Late h
  fa : ∀ k, k < h.hands → FaAt H (c.fa k) ((h.had k).take (h.desk k).gone)
theorem DeskAt.same {A : Ad} {c : Cells} {H H' : Hp} {n k : Nat} {x : Sq36.Desk} (d : DeskAt A c H n k x) (s : Same H H') : DeskAt A c H' n k x :=
  ⟨d.ob.same s, s _ _ d.ca, s _ _ d.sa, s _ _ d.ha, fun j hj => s _ _ (d.sr j hj), d.nsr⟩
theorem FaAt.keep {H H' : Hp} {a : Addr} {l : List Sq36.Deed} (f : FaAt H a l) (k : ∀ o, H a = some o → H' a = some o) : FaAt H' a l := let ⟨kvs, e, r⟩ := f; ⟨kvs, k _ e, r⟩
/-- a desk whose cells stand -/
theorem DeskAt.stand {A : Ad} {c c' : Cells} {H H' : Hp} {n k : Nat} {x : Sq36.Desk} (d : DeskAt A c H n k x) (e1 : c'.da k = c.da k) (e2 : c'.ca k = c.ca k) (e3 : c'.sa k = c.sa k) (e4 : c'.ha k = c.ha k) (e5 : c'.fa k = c.fa k) (e6 : c'.sr k = c.sr k)
    (ks : ∀ s : Slot, s.of k → H' (c.sl s) = H (c.sl s)) (kp : Keep (c.M n) H H') (nM : ∀ b o, H b = some o → ¬ c.M n b → ¬ c'.M n b) : DeskAt A c' H' n k x := by
  refine ⟨?_, ?_, ?_, ?_, fun j hj => ?_, fun j hj => ?_⟩
  · rw [e1, e2, e3, e4, e5]
    obtain ⟨dx, e⟩ := d.ob
    exact ⟨dx, (ks (.da k) rfl).trans e⟩
  · rw [e2]; exact (ks (.ca k) rfl).trans d.ca
  · rw [e3, e6]; exact (ks (.sa k) rfl).trans d.sa
  · rw [e4]; exact (ks (.ha k) rfl).trans d.ha
  · rw [e6]; exact kp _ _ (d.nsr j hj) (d.sr j hj)
  · rw [e6]; exact nM _ _ (d.sr j hj) (d.nsr j hj)
theorem LetterAt.keep {A : Ad} {c : Cells} {H H' : Hp} {n i : Nat} {m : Sq36.Letter} {ns : List V} (d : LetterAt A c H n i m ns) (s : Keep (c.M n) H H') : LetterAt A c H' n i m ns :=
  ⟨let ⟨dx, e⟩ := d.ob; ⟨dx, s _ _ d.nla e⟩, s _ _ d.nlc d.lc, s _ _ d.nln d.ln, d.nla, d.nlc, d.nln⟩
theorem HouseAt.same {A : Ad} {c : Cells} {H H' : Hp} {h : Sq36.House} (x : HouseAt A c H h) (s : Same H H') : HouseAt A c H' h :=
  ⟨x.ok, x.ob.same s, s _ _ x.dk, x.ndk, s _ _ x.dl, x.dd.same s, s _ _ x.lt, fun k hk => (x.desk k hk).same s, fun i m hm => let ⟨ns, q⟩ := x.letter i m hm; ⟨ns, q.keep (.of s)⟩, x.apart, (fun b hb z => x.frt b hb (s.free z)), x.late, fun k hk => (x.fa k hk).keep fun o e => s _ _ e⟩
theorem Dd.inj {A : Ad} {M : Addr → Prop} {ad : Nat → Addr} {H : Hp} {l : List Sq36.Deed} (dd : Dd A M ad H l) {d e : Sq36.Deed} (hd : d ∈ l) (he : e ∈ l) (q : ad d.id = ad e.id) : d.id = e.id := by
  obtain ⟨_, _, h1⟩ := dd d hd
  obtain ⟨_, _, h2⟩ := dd e he
  obtain ⟨dx, e1⟩ := h1.ob
  obtain ⟨dy, e2⟩ := h2.ob
  rw [q, e2] at e1
  have e3 := Option.some.inj e1
  injection e3 with _ _ e4
  unfold fs_Deed at e4
  injection e4 with e5 _
  injection e5 with _ e6
  injection e6 with e7
  omega
section
variable {P : Program} {w : World} {K : PySem.W.Frag} {mg : Str → Option Value} {base : Heap} {A : Ad} {D : Fd}
def sp_has_desk (A : Ad) : Sp := fun vs H Q _ => ∃ (c : Cells) (h : Sq36.House) (k : Nat), vs = [.ref c.hs, .int (k : Int)] ∧ HouseAt A c H h ∧ Q (.bl (decide (k < h.hands))) H
theorem dec_lt (a b : Nat) : decide ((a : Int) < (b : Int)) = decide (a < b) := by
  by_cases e : a < b
  · rw [decide_eq_true e, decide_eq_true (by omega)]
  · rw [decide_eq_false e, decide_eq_false (by omega)]
theorem dec_le (a b : Nat) : decide ((a : Int) ≤ (b : Int)) = decide (a ≤ b) := by
  by_cases e : a ≤ b
  · rw [decide_eq_true e, decide_eq_true (by omega)]
  · rw [decide_eq_false e, decide_eq_false (by omega)]
theorem ok_has_desk (T : Txt K mg A D) : FnOk P w K mg base CX0 1 A.f_has_desk D.d_has_desk ["house", "desk"] (sp_has_desk A) := by
  refine T.f_has_desk.ok sc_has_desk (fun vs H Q E h => ?_) (fun cdv ar outer s H vs Q E hr h => ⟨_, (pss_one (ps_ret (pe_cmpR op_lt (pv 1) (pe_callB call_len_seq (by rfl) T.n_len PySem.boot_len (pa_cons (pe_fld (pv 0) (by rfl)) pa_nil)) (nomark _)))), ?_⟩)
  · obtain ⟨c, h, k, rfl, _⟩ := h; rfl
  · obtain ⟨c, h, k, rfl, x, q⟩ := h
    refine ⟨_, rfl, _, rfl, x.ob.desks T ⟨c.dk, _, rfl, .inl (.of x.dk), _, _, rfl, rfl, ?_⟩⟩
    rw [refs_len]
    show Q (.bl (decide ((k : Int) < (h.hands : Int)))) H
    rw [dec_lt]
    exact q
def sp_is_full (A : Ad) : Sp := fun vs H Q _ => ∃ (c : Cells) (h : Sq36.House), vs = [.ref c.hs] ∧ HouseAt A c H h ∧ Q (.bl (decide (100 ≤ h.all.length))) H
theorem ok_is_full (T : Txt K mg A D) : FnOk P w K mg base CX0 1 A.f_is_full D.d_is_full ["house"] (sp_is_full A) := by
  refine T.f_is_full.ok sc_is_full (fun vs H Q E h => ?_) (fun cdv ar outer s H vs Q E hr h => ⟨_, (pss_one (ps_ret (pe_cmpR op_ge (pe_callB call_len_seq (by rfl) T.n_len PySem.boot_len (pa_cons (pe_fld (pv 0) (by rfl)) pa_nil)) (pe_glob (v := .int (100)) (by rfl) (Classical.choose_spec T.g_MOST_DEEDS) ⟨_, rfl⟩) (nomark _)))), ?_⟩)
  · obtain ⟨c, h, rfl, _⟩ := h; rfl
  · obtain ⟨c, h, rfl, x, q⟩ := h
    refine ⟨_, rfl, x.ob.deeds T ⟨c.dl, _, rfl, .inl (.of x.dl), _, _, rfl, rfl, ?_⟩⟩
    rw [rfs_len]
    have e : decide ((100 : Int) ≤ (h.all.length : Int)) = decide (100 ≤ h.all.length) := dec_le 100 _
    show Q (.bl (decide ((100 : Int) ≤ (h.all.length : Int)))) H
    rw [e]
    exact q
def sp_next_count (A : Ad) : Sp := fun vs H Q _ => ∃ (c : Cells) (h : Sq36.House) (k : Nat), vs = [.ref c.hs, .int (k : Int)] ∧ HouseAt A c H h ∧ k < h.hands ∧ Q (.int ((h.desk k).clock + 1 : Int)) H
theorem ok_next_count (T : Txt K mg A D) : FnOk P w K mg base CX0 1 A.f_next_count D.d_next_count ["house", "desk"] (sp_next_count A) := by
  refine T.f_next_count.ok sc_next_count (fun vs H Q E h => ?_) (fun cdv ar outer s H vs Q E hr h => ⟨_, (pss_one (ps_ret (pe_op op_add (pe_fld (pe_ix ix_list (pe_fld (pv 0) (by rfl)) (pv 1) (by exact fun _ _ => rfl)) (by rfl)) pe_int))), ?_⟩)
  · obtain ⟨c, h, k, rfl, _⟩ := h; rfl
  · obtain ⟨c, h, k, rfl, x, hk, q⟩ := h
    exact ⟨_, rfl, x.ob.desks T ⟨_, rfl, c.dk, _, _, _, rfl, rfl, .of x.dk, atI_nat (refs_get hk), (x.desk k hk).ob.greatest T ⟨_, _, rfl, rfl, q⟩⟩⟩
/-! ### had -/
def keyV (ad : Nat → Addr) (l : List Sq36.Deed) (v : V) : Int × Int := ((l.find? fun d => decide (v = rf ad d)).map fun d => ((d.stamp.count : Int), (d.stamp.hand : Int))).getD (0, 0)
theorem keyV_at {A : Ad} {M : Addr → Prop} {ad : Nat → Addr} {H : Hp} {l : List Sq36.Deed} (dd : Dd A M ad H l) (u : ∀ d e, d ∈ l → e ∈ l → d.id = e.id → d = e) {d : Sq36.Deed} (hd : d ∈ l) : keyV ad l (rf ad d) = ((d.stamp.count : Int), (d.stamp.hand : Int)) := by
  unfold keyV
  cases e : l.find? fun e => decide (rf ad d = rf ad e) with
  | none =>
    rw [List.find?_eq_none] at e
    exact absurd (decide_eq_true rfl) (e d hd)
  | some d' =>
    have h1 := List.find?_some e
    have h2 := of_decide_eq_true h1
    have hm := List.mem_of_find?_eq_some e
    have : d = d' := u d d' hd hm (dd.inj hd hm (by injection h2))
    rw [← this]
    rfl
def sp_had (A : Ad) : Sp := fun vs H Q _ => ∃ (c : Cells) (h : Sq36.House) (k : Nat), vs = [.ref c.hs, .int (k : Int)] ∧ HouseAt A c H h ∧ k < h.hands ∧
  ∀ (H' : Hp) (p : Addr), Same H H' → H p = none → H' p = some (.lst (rfs c.ad (h.had k))) → Q (.ref p) H'
theorem ok_had (T : Txt K mg A D) : FnOk P w K mg base CX0 4 A.f_had D.d_had ["house", "desk"] (sp_had A) := by
  refine T.f_had.ok sc_had (fun vs H Q E h => ?_) (fun cdv ar outer s H vs Q E hr h => have hu := hu_of hr; ⟨_, (pss_cons (ps_set (i := 2) sc_had.nd rfl (Or.inr rfl) (pe_fld (pe_ix ix_list (pe_fld (pv 0) (by rfl)) (pv 1) (by exact fun _ _ => rfl)) (by rfl)))
    (pss_one (ps_ret (pe_callBK (cr_sortOwn (ok_stamp T) (by exact hr.mono (by decide)) T.b_stamp) (by rfl) T.n_sorted (by decide +kernel) (pa_cons (pe_lc (own := [("deed", 3)]) (g := gName 3)  (by rfl) sc_had.nd (pi_list (pe_fld (pv 0) (by rfl))) (blkOk_by (own := [("deed", 3)]) (N := N_had) (sc := defScope s_had) (by decide +kernel)) (fun _ _ _ _ _ => pg_name (i := 3) sc_had.nd rfl (Or.inl rfl)) (fun _ _ _ _ _ => pts_one (by exact (pt_cmpR op_le (pe_fldK (K := K) (by rfl) (pv 3) (by rfl)) (pe_ix (ixK (K := K) (by rfl)) (pv 2) (pe_fldK (K := K) (by rfl) (pv 3) (by rfl)) (by exact fun _ _ => rfl)) (nomark _)))) (fun _ _ _ _ _ => (by exact (pv 3)))) pa_nil) (pk_cons (pe_glob (v := .ref A.f_stamp) (by rfl) T.m_stamp rfl) pk_nil))))), ?_⟩)
  · obtain ⟨c, h, k, rfl, _⟩ := h; rfl
  · obtain ⟨c, h, k, rfl, x, hk, q⟩ := h
    have dx := x.desk k hk
    refine ⟨_, rfl, x.ob.desks T ⟨_, rfl, c.dk, _, _, _, rfl, rfl, .of x.dk, atI_nat (refs_get hk), dx.ob.counts T ?_⟩⟩
    refine ⟨_, rfl, x.ob.deeds T ⟨c.dl, rfl, ⟨_, .of x.dl⟩, fun p np => ?_⟩⟩
    have len := x.ok.full
    refine lc_pick (K := K) (a := c.dl) (l := h.all) (f := rf c.ad) (i := 3) (Sq36.was (h.desk k).has) (rf c.ad) np (.of x.dl) (by omega) (fun d hd H6 R s6 kR => ?_) (fun d hd _ H6 R s6 kR => ⟨_, rfl, kR H6 (Same.refl _)⟩) fun H6 s6 hp => ?_
    · obtain ⟨sw, r, h1⟩ := (x.dd.same s6) d hd
      have hh : d.stamp.hand < (h.desk k).has.length := by rw [(x.ok.deskOk hk).has.len]; exact x.ok.deeds.hand d hd
      refine ⟨_, rfl, h1.ob.rank T ⟨_, rfl, _, rfl, h1.ob.desk T ⟨c.ca k, _, _, _, rfl, rfl, .of (s6 _ _ dx.ca), atI_nat (nums_get hh), _, _, rfl, rfl, _, rfl, ?_⟩⟩⟩
      rw [dec_le]
      exact kR H6 (Same.refl _)
    · have ddf := (x.dd.same s6).sub (m := h.all.filter (Sq36.was (h.desk k).has)) fun d hd => (List.mem_filter.mp hd).1
      have uq : ∀ d e, d ∈ h.all.filter (Sq36.was (h.desk k).has) → e ∈ h.all.filter (Sq36.was (h.desk k).has) → d.id = e.id → d = e := fun d e hd he => x.ok.deeds.uniq (List.mem_filter.mp hd).1 (List.mem_filter.mp he).1
      refine ⟨p, _, keyV c.ad (h.all.filter (Sq36.was (h.desk k).has)), rfl, rfl, .of hp, fun v hv H1 Q1 s1 k1 => ?_, fun p2 H2 s2 n2 h2 => q H2 p2 (s6.trans s2) (s6.free n2) ?_⟩
      · obtain ⟨d, hd, rfl⟩ := List.mem_map.mp hv
        obtain ⟨sw, r, h1⟩ := (ddf.same s1) d hd
        rw [keyV_at ddf uq hd] at k1
        exact ⟨_, sw, r, _, d, rfl, h1, fun H' t s' ht => k1 H' t s' ht⟩
      · rw [h2, x.ok.had_sort k]
        unfold rfs
        rw [List.map_mergeSort (s := leK (keyV c.ad (h.all.filter (Sq36.was (h.desk k).has))))]
        intro a ha b hb
        unfold leK leD
        rw [keyV_at ddf uq ha, keyV_at ddf uq hb]
def sp_outline_of (A : Ad) : Sp := fun vs H Q _ => ∃ (c : Cells) (h : Sq36.House) (k : Nat), vs = [.ref c.hs, .int (k : Int)] ∧ HouseAt A c H h ∧ k < h.hands ∧
  ∀ (H' : Hp) (p dl hl pl : Addr) (kvs : List (Key × V)), Same H H' → H p = none → H dl = none → H hl = none → H pl = none → OutAt A (c.M h.hands) c.ad H' p (h.had k) dl hl pl kvs → Q (.ref p) H'
theorem had_dd {c : Cells} {H : Hp} {h : Sq36.House} (x : HouseAt A c H h) (k : Nat) : Dd A (c.M h.hands) c.ad H (h.had k) := x.dd.sub fun d hd => (x.ok.mem_had.mp hd).1
theorem ok_outline_of (T : Txt K mg A D) : FnOk P w K mg base CX0 6 A.f_outline_of D.d_outline_of ["house", "desk"] (sp_outline_of A) := by
  refine T.f_outline_of.ok sc_outline_of (fun vs H Q E h => ?_) (fun cdv ar outer s H vs Q E hr h => have hu := hu_of hr; ⟨_, (pss_one (ps_ret (pe_make T.mk_Outline (ok_Outline_init T) (by exact hr.mono (by decide)) (by rfl) T.c_Outline T.b_Outline_init .nil pass0 (pa_cons (pe_call (ok_had T) (by exact hr.mono (by decide)) (by rfl) T.m_had T.f_had.kp T.b_had .nil pass0 (pa_cons (pv 0) (pa_cons (pv 1) pa_nil))) pa_nil)))), ?_⟩)
  · obtain ⟨c, h, k, rfl, _⟩ := h; rfl
  · obtain ⟨c, h, k, rfl, x, hk, q⟩ := h
    refine ⟨_, rfl, _, rfl, c, h, k, rfl, x, hk, fun H1 p1 s1 n1 h1 => ?_⟩
    intro o dx no nd ne
    exact ⟨o, dx, p1, H1, h.had k, c.ad, c.M h.hands, rfl, rfl, no, nd, ne, h1, (had_dd x k).same s1, x.ok.wf k, fun H' hl pl kvs s' nh np ho => ⟨rfl, q H' o p1 hl pl kvs (s1.trans s') (s1.free no) n1 (s1.free nh) (s1.free np) ho⟩⟩
end
end Ho
end

section
set_option Elab.async false
set_option maxRecDepth 100000
set_option maxHeartbeats 4000000
/-! do_deed -/
namespace Ho
open PySem PySem.W PyProof.Rows L2
section
variable {P : Program} {w : World} {K : PySem.W.Frag} {mg : Str → Option Value} {base : Heap} {A : Ad} {D : Fd}
theorem HouseAt.there {c : Cells} {H : Hp} {h : Sq36.House} (x : HouseAt A c H h) {a : Addr} (m : c.M h.hands a) : H a ≠ none := by
  have no : ∀ {o : HO}, H a = some o → H a ≠ none := fun e z => by rw [e] at z; cases z
  rcases m with ⟨s, hs, rfl⟩ | m
  · cases s with
    | hs => obtain ⟨dx, e⟩ := x.ob; exact no e
    | dl => exact no x.dl
    | lt => exact no x.lt
    | da k => obtain ⟨dx, e⟩ := (x.desk k hs).ob; exact no e
    | ca k => exact no (x.desk k hs).ca
    | sa k => exact no (x.desk k hs).sa
    | ha k => exact no (x.desk k hs).ha
    | fa k => obtain ⟨kvs, e, _⟩ := x.fa k hs; exact no e
  · exact x.frt a m
theorem HouseAt.fresh {c : Cells} {H : Hp} {h : Sq36.House} (x : HouseAt A c H h) {a : Addr} (e : H a = none) : ¬ c.M h.hands a := fun m => x.there m e
theorem nums_set (l : List Nat) (k v : Nat) : (nums l).set k (.int (v : Int)) = nums (l.set k v) := by
  unfold nums
  rw [List.map_set]
theorem ixN_nat {n k : Nat} (h : k < n) : ixN n (k : Int) = some k := by
  have := atI_nat (xs := List.range n) (j := k) (v := k) (by rw [List.getElem?_range h])
  unfold atI at this
  rw [List.length_range] at this
  cases e : ixN n (k : Int) with
  | none => rw [e] at this; cases this
  | some j =>
    rw [e] at this
    have t2 : (List.range n)[j]? = some k := this
    rw [List.getElem?_range (by
      have := (List.getElem?_eq_some_iff.mp t2).1
      rw [List.length_range] at this
      exact this)] at t2
    exact t2
def sp_do_deed (A : Ad) : Sp := fun vs H Q _ => ∃ (c : Cells) (h : Sq36.House) (k : Nat) (a : Sq36.Act) (r : Addr), vs = [.ref c.hs, .int (k : Int), .ref r] ∧ HouseAt A c H h ∧ k < h.hands ∧ h.all.length < 100 ∧ ActAt A H r a ∧ ¬ c.M h.hands r ∧ Ok (h.does k a) ∧
  ∀ (H' : Hp) (c' : Cells), c'.hs = c.hs → c'.M h.hands = c.M h.hands → c'.fr = c.fr → Keep (c.M0 h.hands) H H' → HouseAt A c' H' (h.does k a) → Q (.int (h.all.length : Int)) H'
set_option maxHeartbeats 8000000 in
theorem ok_do_deed (T : Txt K mg A D) : FnOk P w K mg base CX0 3 A.f_do_deed D.d_do_deed ["house", "desk", "act"] (sp_do_deed A) := by
  refine T.f_do_deed.ok sc_do_deed (fun vs H Q E h => ?_) (fun cdv ar outer s H vs Q E hr h => have hu := hu_of hr; ⟨_, (pss_cons (ps_set (i := 3) sc_do_deed.nd rfl (Or.inl rfl) (pe_ix ix_list (pe_fld (pv 0) (by rfl)) (pv 1) (by exact fun _ _ => rfl)))
    (pss_cons (ps_set (i := 4) sc_do_deed.nd rfl (Or.inl rfl) (pe_callTy call_list_of (by rfl) T.n_list (by decide +kernel) (pa_cons (pe_fld (pv 3) (by rfl)) pa_nil)))
    (pss_cons (ps_fld (pv 3) (pe_call (ok_next_count T) (by exact hr.mono (by decide)) (by rfl) T.m_next_count T.f_next_count.kp T.b_next_count .nil pass0 (pa_cons (pv 0) (pa_cons (pv 1) pa_nil))) (by rfl))
    (pss_cons (ps_asg (pe_op op_add (pe_ix ix_list (pv 4) (pv 1) (by exact fun _ _ => rfl)) pe_int) (pg_sub (pe_fld (pv 3) (by rfl)) (pv 1) set_list))
    (pss_cons (ps_set (i := 5) sc_do_deed.nd rfl (Or.inl rfl) (pe_callB call_len_seq (by rfl) T.n_len PySem.boot_len (pa_cons (pe_fld (pv 0) (by rfl)) pa_nil)))
    (pss_cons (ps_expr (pe_bm PySem.F.plainAttrs_list PySem.F.slot_list_append PySem.F.type_list_append mt_append (pe_fld (pv 0) (by rfl)) (pa_cons (pe_make T.mk_Deed (ok_Deed_init T) (by exact hr.mono (by decide)) (by rfl) T.c_Deed T.b_Deed_init .nil pass0 (pa_cons (pv 5) (pa_cons (pv 1) (pa_cons (pe_ix ix_list (pe_fld (pv 3) (by rfl)) (pv 1) (by exact fun _ _ => rfl)) (pa_cons (pe_fld (pv 3) (by rfl)) (pa_cons (pv 4) (pa_cons (pv 2) pa_nil))))))) pa_nil)))
    (pss_one (ps_ret (pv 5))))))))), ?_⟩)
  · obtain ⟨c, h, k, a, r, rfl, _⟩ := h; rfl
  · obtain ⟨c, h, k, a, r, rfl, x, hk, hf, ha, nr, okn, q⟩ := h
    have dx := x.desk k hk
    have lh : (h.desk k).has.length = h.hands := (x.ok.deskOk hk).has.len
    have hkl : k < (h.desk k).has.length := by rw [lh]; exact hk
    have ap := x.apart
    -- doer, saw
    refine ⟨_, rfl, x.ob.desks T ⟨_, rfl, c.dk, _, _, _, rfl, rfl, .of x.dk, atI_nat (refs_get hk), ?_⟩⟩
    refine ⟨_, rfl, dx.ob.counts T ⟨c.ca k, _, rfl, .inl (.of dx.ca), fun p1 n1 => ?_⟩⟩
    have np1 : ¬ c.M h.hands p1 := x.fresh n1
    have s1 : Same H (upd H p1 (.lst (nums (h.desk k).has))) := same_upd n1
    have e1 : upd H p1 (.lst (nums (h.desk k).has)) p1 = some (.lst (nums (h.desk k).has)) := upd_same
    generalize upd H p1 (.lst (nums (h.desk k).has)) = H1 at s1 e1 ⊢
    have x1 := x.same s1
    have dx1 := x1.desk k hk
    -- doer.greatest = next_count(house, desk)
    refine ⟨_, rfl, _, rfl, c, h, k, rfl, x1, hk, _, rfl, dx1.ob.set_greatest T _ fun H2 o2 d2 => ?_⟩
    have mda : c.M0 h.hands (c.da k) := c.inM (.da k) hk
    have mca : c.M0 h.hands (c.ca k) := c.inM (.ca k) hk
    have mdl : c.M0 h.hands c.dl := c.inM .dl trivial
    have p1da : p1 ≠ c.da k := fun z => np1 (.inl (z ▸ mda))
    have p1ca : p1 ≠ c.ca k := fun z => np1 (.inl (z ▸ mca))
    have cada : c.ca k ≠ c.da k := ap.ne (.ca k) (.da k) hk hk (fun z => by cases z)
    -- doer.counts[desk] = saw[desk] + 1
    have e2p : H2 p1 = some (.lst (nums (h.desk k).has)) := by rw [o2 _ p1da]; exact e1
    have e2c : H2 (c.ca k) = some (.lst (nums (h.desk k).has)) := by rw [o2 _ cada]; exact dx1.ca
    refine ⟨_, rfl, _, rfl, p1, _, _, _, rfl, rfl, .of e2p, atI_nat (nums_get hkl), _, _, rfl, rfl, _, rfl, d2.counts T ⟨_, rfl, c.ca k, _, _, k, rfl, rfl, e2c, (by rw [nums_len]; exact ixN_nat hkl), ?_⟩⟩
    obtain ⟨has', ehas⟩ : ∃ has', has' = (h.desk k).has.set k (Sq36.at_ (h.desk k).has k + 1) := ⟨_, rfl⟩
    have eset : (nums (h.desk k).has).set k ((fun (i j : Int) => V.int (i + j)) ((Sq36.at_ (h.desk k).has k : Nat) : Int) 1) = nums has' := by
      rw [ehas, ← nums_set]
      rfl
    rw [eset]
    have o3 : ∀ b, b ≠ c.ca k → upd H2 (c.ca k) (.lst (nums has')) b = H2 b := fun b hb => upd_ne hb
    have e3 : upd H2 (c.ca k) (.lst (nums has')) (c.ca k) = some (.lst (nums has')) := upd_same
    generalize upd H2 (c.ca k) (.lst (nums has')) = H3 at o3 e3 ⊢
    have at3 : ∀ b, b ≠ c.ca k → b ≠ c.da k → H3 b = H1 b := fun b h1 h2 => by rw [o3 b h1, o2 b h2]
    have kp3 : Keep (c.M0 h.hands) H1 H3 := fun b o nb e => by rw [at3 b (fun z => nb (z ▸ mca)) (fun z => nb (z ▸ mda))]; exact e
    have st3 : ∀ t : Slot, t.In h.hands → t ≠ .ca k → t ≠ .da k → H3 (c.sl t) = H1 (c.sl t) := fun t ht h1 h2 => at3 _ (ap.ne t (.ca k) ht hk h1) (ap.ne t (.da k) ht hk h2)
    have hs3 : obHouse A H3 c.hs (.ref c.dk) (.ref c.dl) (.ref c.lt) (.int (h.things : Int)) := by
      obtain ⟨d, e⟩ := x1.ob
      exact ⟨d, (st3 .hs trivial (fun z => by cases z) (fun z => by cases z)).trans e⟩
    have dl3 : H3 c.dl = some (.lst (rfs c.ad h.all)) := (st3 .dl trivial (fun z => by cases z) (fun z => by cases z)).trans x1.dl
    have dk3 : obDesk A H3 (c.da k) (.int ((h.desk k).clock + 1 : Int)) (.ref (c.ca k)) (.ref (c.sa k)) (.ref (c.ha k)) (.ref (c.fa k)) := d2.other (Ne.symm cada) o3
    have p13 : H3 p1 = some (.lst (nums (h.desk k).has)) := by rw [at3 _ p1ca p1da]; exact e1
    -- number, the new deed
    refine ⟨_, rfl, hs3.deeds T ⟨c.dl, _, rfl, .inl (.of dl3), ?_⟩⟩
    rw [rfs_len]
    have hl' : k < has'.length := by rw [ehas, List.length_set]; exact hkl
    have v' : Sq36.at_ has' k = Sq36.at_ (h.desk k).has k + 1 := by rw [ehas, at_set _ _ _ _ hkl, if_pos rfl]
    have ni := nums_get hl'
    rw [v'] at ni
    refine ⟨_, rfl, hs3.deeds T ⟨.inl ⟨rfl, _, .of dl3⟩, _, rfl, _, rfl, _, rfl, dk3.counts T ⟨_, rfl, c.ca k, _, _, _, rfl, rfl, .of e3, atI_nat ni, _, rfl, dk3.greatest T ⟨_, rfl, _, rfl, mk_Deed fun nd H4 nnd s4 d4 => ?_⟩⟩⟩⟩
    refine ⟨c.dl, _, _, rfl, rfl, s4 _ _ dl3, (by rw [rfs_len]; exact small_of (by omega)), ?_⟩
    have o5 : ∀ b, b ≠ c.dl → upd H4 c.dl (.lst (rfs c.ad h.all ++ [V.ref nd])) b = H4 b := fun b hb => upd_ne hb
    have e5 : upd H4 c.dl (.lst (rfs c.ad h.all ++ [V.ref nd])) c.dl = some (.lst (rfs c.ad h.all ++ [V.ref nd])) := upd_same
    generalize upd H4 c.dl (.lst (rfs c.ad h.all ++ [V.ref nd])) = H5 at o5 e5 ⊢
    -- the house behind it
    have kp5 : Keep (c.M0 h.hands) H1 H5 := fun b o nb e => by rw [o5 b (fun z => nb (z ▸ mdl))]; exact s4 _ _ (kp3 b o nb e)
    have nd1 : H1 nd = none := by
      cases z : H1 nd with
      | none => rfl
      | some o =>
        exfalso
        by_cases m : c.M0 h.hands nd
        · by_cases ca : nd = c.ca k
          · rw [ca, e3] at nnd; cases nnd
          · by_cases da : nd = c.da k
            · obtain ⟨d, e⟩ := dk3; rw [da, e] at nnd; cases nnd
            · rw [at3 nd ca da, z] at nnd; cases nnd
        · rw [kp3 nd o m z] at nnd; cases nnd
    have nnd' : ¬ c.M h.hands nd := x1.fresh nd1
    obtain ⟨c', ec⟩ : ∃ c' : Cells, c' = { c with ad := fun i => if i = h.all.length then nd else c.ad i } := ⟨_, rfl⟩
    have cM : c'.M h.hands = c.M h.hands := by rw [ec]; rfl
    have ad_old : ∀ d ∈ h.all, c'.ad d.id = c.ad d.id := fun d hd => by
      obtain ⟨i, hi⟩ := List.getElem?_of_mem hd
      have := x.ok.deeds.id i d hi
      have := (List.getElem?_eq_some_iff.mp hi).1
      rw [ec]
      exact if_neg (by omega)
    have ad_new : c'.ad h.all.length = nd := by rw [ec]; exact if_pos rfl
    have rfs_old : rfs c'.ad h.all = rfs c.ad h.all := by
      unfold rfs
      refine List.map_congr_left fun d hd => ?_
      show V.ref (c'.ad d.id) = V.ref (c.ad d.id)
      rw [ad_old d hd]
    have desk_of' : ∀ j, j < h.hands → (h.does k a).desk j = if j = k then { h.desk k with has := has', clock := (h.desk k).clock + 1 } else h.desk j := fun j hj => by
      have e : ((h.desks.set k { h.desk k with has := has', clock := (h.desk k).clock + 1 })[j]?).getD (Sq36.desk0 0) = (h.does k a).desk j := by
        rw [ehas]; rfl
      rw [← e, List.getElem?_set]
      by_cases jk : j = k
      · subst jk
        rw [if_pos rfl, if_pos (by rw [x.ok.desks]; exact hk), if_pos rfl]
        rfl
      · rw [if_neg (fun z => jk z.symm), if_neg jk]
        rfl
    refine ⟨_, rfl, q H5 c' (by rw [ec]) cM (by rw [ec]) (fun b o nb e => kp5 b o nb (s1 _ _ e)) ⟨okn, ?_, ?_, ?_, ?_, ?_, ?_, ?_, ?_, ?_, ?_, x.late.does x.ok okn hk, ?_⟩⟩
    · show obHouse A H5 c'.hs (.ref c'.dk) (.ref c'.dl) (.ref c'.lt) (.int (h.things : Int))
      rw [ec]
      obtain ⟨d, e⟩ := hs3
      exact ⟨d, by rw [o5 _ ap.h1]; exact s4 _ _ e⟩
    · show H5 c'.dk = some (.lst (refs c'.da h.hands))
      rw [ec]
      exact kp5.up _ _ x.ndk x1.dk
    · show ¬ c'.M h.hands c'.dk
      rw [cM, ec]
      exact x.ndk
    · show H5 c'.dl = some (.lst (rfs c'.ad (h.all ++ [_])))
      have : c'.dl = c.dl := by rw [ec]
      rw [this, e5]
      unfold rfs at rfs_old ⊢
      rw [List.map_append, rfs_old]
      show _ = some (HO.lst (_ ++ [V.ref (c'.ad h.all.length)]))
      rw [ad_new]
    · show Dd A (c'.M h.hands) c'.ad H5 (h.all ++ [_])
      rw [cM]
      intro d hd
      rcases List.mem_append.mp hd with hd | hd
      · obtain ⟨sw, r2, h2⟩ := x1.dd d hd
        rw [ad_old d hd]
        exact ⟨sw, r2, h2.keep kp5.up⟩
      · have e := List.mem_singleton.mp hd
        subst e
        refine ⟨p1, r, ?_⟩
        show DeedAt A (c.M h.hands) H5 (c'.ad h.all.length) _ p1 r
        rw [ad_new]
        refine ⟨?_, ?_, ?_, nnd', np1, nr⟩
        · obtain ⟨d, e⟩ := d4
          refine ⟨d, ?_⟩
          rw [o5 nd (fun z => nnd' (.inl (z ▸ mdl))), e]
          rfl
        · rw [o5 p1 (fun z => np1 (.inl (z ▸ mdl)))]
          exact s4 _ _ p13
        · exact (ha.keep (H' := H1) fun o e => s1 _ _ e).keep fun o e => kp5.up _ _ nr e
    · show H5 c'.lt = some (.lst (refs c'.la h.letters.length))
      rw [ec]
      show H5 c.lt = _
      rw [o5 _ (Ne.symm ap.h3)]
      exact s4 _ _ ((st3 .lt trivial (fun z => by cases z) (fun z => by cases z)).trans x1.lt)
    · intro j hj
      have hj' : j < h.hands := hj
      rw [desk_of' j hj']
      have dj := x1.desk j hj'
      have base5 : ∀ {b o}, b ≠ c.dl → H3 b = some o → H5 b = some o := fun {b o} hb e => by rw [o5 b hb]; exact s4 _ _ e
      show DeskAt A c' H5 h.hands j _
      by_cases jk : j = k
      · subst jk
        rw [if_pos rfl]
        refine ⟨?_, ?_, ?_, ?_, fun i hi => ?_, fun i hi => ?_⟩
        · rw [ec]
          obtain ⟨d, e⟩ := dk3
          exact ⟨d, base5 (ap.ne (.da j) .dl hj' trivial (fun z => by cases z)) e⟩
        · rw [ec]; exact base5 (ap.ne (.ca j) .dl hj' trivial (fun z => by cases z)) e3
        · rw [ec]; exact base5 (ap.ne (.sa j) .dl hj' trivial (fun z => by cases z)) ((st3 (.sa j) hj' (fun z => by cases z) (fun z => by cases z)).trans dj.sa)
        · rw [ec]; exact base5 (ap.ne (.ha j) .dl hj' trivial (fun z => by cases z)) ((st3 (.ha j) hj' (fun z => by cases z) (fun z => by cases z)).trans dj.ha)
        · rw [ec]; exact kp5.up _ _ (dx.nsr i hi) (dj.sr i hi)
        · rw [cM, ec]; exact dx.nsr i hi
      · rw [if_neg jk]
        refine dj.stand (by rw [ec]) (by rw [ec]) (by rw [ec]) (by rw [ec]) (by rw [ec]) (by rw [ec]) (fun t ht => ?_) kp5.up fun b o _ nb => by rw [cM]; exact nb
        have tin : t.In h.hands := by cases t <;> first | exact ht.elim | (cases ht; exact hj')
        have n1 : t ≠ .ca k := fun z => by subst z; exact jk ht.symm
        have n2 : t ≠ .da k := fun z => by subst z; exact jk ht.symm
        have n3 : t ≠ .dl := fun z => by subst z; exact ht
        cases y : H1 (c.sl t) with
        | none => exact absurd y (x1.there (.inl (c.inM t tin)))
        | some o => exact base5 (ap.ne t .dl tin trivial n3) ((st3 t tin n1 n2).trans y)
    · intro i m hm
      obtain ⟨ns, l1⟩ := x1.letter i m hm
      refine ⟨ns, ?_⟩
      have l5 := l1.keep kp5.up
      rw [ec]
      exact ⟨l5.ob, l5.lc, l5.ln, l5.nla, l5.nlc, l5.nln⟩
    · rw [ec]
      exact ⟨ap.inj, ap.fr⟩
    · intro b hb z
      have hb' : c.fr b := by rw [ec] at hb; exact hb
      cases y : H1 b with
      | none => exact x1.frt b hb' y
      | some o => rw [kp5 b o (ap.fr b hb') y] at z; cases z
    · intro j hj
      have hj' : j < h.hands := hj
      have e0 : c'.fa j = c.fa j := by rw [ec]
      rw [e0, does_gone x.ok hk, does_take x.ok okn x.late hk hj']
      refine (x1.fa j hj').keep fun o e => ?_
      rw [o5 (c.fa j) (ap.ne (.fa j) .dl hj' trivial (fun z => by cases z))]
      exact s4 _ _ ((st3 (.fa j) hj' (fun z => by cases z) (fun z => by cases z)).trans e)
end
end Ho
end

section
set_option Elab.async false
set_option maxRecDepth 100000
set_option maxHeartbeats 4000000
/-! make, move, tell, clear, add, less -/
namespace Ho
open PySem PySem.W PyProof.Rows L2
def outs (o : Sq36.Out) : List V := (o.value :: o.out).map V.int
/-- what a call leaves -/
def Res (A : Ad) (c : Cells) (h : Sq36.House) (H : Hp) (r : Sq36.House × Sq36.Out) (Q : VK) : Prop :=
  ∀ (H' : Hp) (c' : Cells) (p : Addr), c'.hs = c.hs → c'.fr = c.fr → HouseAt A c' H' r.1 → (∀ b o, ¬ c.M0 h.hands b → H b = some o → H' b = some o ∧ ¬ c'.M0 r.1.hands b) → H p = none → H' p = some (.lst (outs r.2)) → Q (.ref p) H'
section
variable {P : Program} {w : World} {K : PySem.W.Frag} {mg : Str → Option Value} {base : Heap} {A : Ad} {D : Fd}
theorem refuse {c : Cells} {h : Sq36.House} {H H1 : Hp} {Q : VK} {z : Int} {r : Sq36.House × Sq36.Out} (x : HouseAt A c H1 h) (s : Same H H1) (res : Res A c h H r Q) (e : r = (h, Sq36.says z)) :
    ([V.int z] : List V).length ≤ sizeLine ∧ ∀ p, H1 p = none → Q (.ref p) (upd H1 p (.lst [.int z])) := by
  subst e
  exact ⟨by show 1 ≤ sizeLine; decide, fun p np => res _ c p rfl rfl (x.same (same_upd np)) (fun b o nb e => ⟨same_upd np _ _ (s _ _ e), nb⟩) (s.free np) upd_same⟩
theorem M0_of {c c' : Cells} {n : Nat} (fa : ∀ b, c.fr b → ¬ c.M0 n b) (fa' : ∀ b, c'.fr b → ¬ c'.M0 n b) (e : c'.M n = c.M n) (f : c'.fr = c.fr) : c'.M0 n = c.M0 n := by
  funext b
  have e1 : c'.M n b = c.M n b := by rw [e]
  refine propext ⟨fun z => ?_, fun z => ?_⟩
  · have m : c.M n b := by rw [← e1]; exact .inl z
    rcases m with m | m
    · exact m
    · exact absurd z (fa' b (by rw [f]; exact m))
  · have m : c'.M n b := by rw [e1]; exact .inl z
    rcases m with m | m
    · exact m
    · exact absurd z (fa b (by rw [← f]; exact m))
theorem finish {c c' : Cells} {h h' : Sq36.House} {H H5 : Hp} {Q : VK} {o : Sq36.Out} {vs : List V} (x : HouseAt A c H h) (res : Res A c h H (h', o) Q) (e1 : c'.hs = c.hs) (ef : c'.fr = c.fr) (eh : h'.hands = h.hands) (e2 : c'.M h.hands = c.M h.hands) (kp : Keep (c.M0 h.hands) H H5) (x' : HouseAt A c' H5 h') (ev : vs = outs o) :
    ∀ p, H5 p = none → Q (.ref p) (upd H5 p (.lst vs)) := by
  intro p np
  subst ev
  refine res _ c' p e1 ef (x'.same (same_upd np)) (fun b o nb e => ⟨same_upd np _ _ (kp b o nb e), ?_⟩) ?_ upd_same
  · show ¬ c'.M0 h'.hands b
    have fa' := x'.apart.fr
    rw [eh] at fa' ⊢
    rw [M0_of x.apart.fr fa' e2 ef]
    exact nb
  · cases z : H p with
    | none => rfl
    | some o =>
      exfalso
      by_cases m : c.M0 h.hands p
      · exact x'.there (by rw [eh, e2]; exact .inl m) np
      · rw [kp p o m z] at np; cases np
theorem at_no {h : Sq36.House} {k y : Nat} {f : List Sq36.Deed → Sq28.Tree → Sq36.House × Sq36.Out} (hk : ¬ k < h.hands) : h.at_ k y f = (h, Sq36.says (-2)) := by
  unfold Sq36.House.at_
  rw [if_pos (by omega)]
theorem at_not {h : Sq36.House} {k y : Nat} {f : List Sq36.Deed → Sq28.Tree → Sq36.House × Sq36.Out} (hk : k < h.hands) (ht : Sq28.there (h.tree k) y = false) : h.at_ k y f = (h, Sq36.says (-3)) := by
  unfold Sq36.House.at_
  rw [if_neg (by omega), if_pos ht]
theorem at_yes {h : Sq36.House} {k y : Nat} {f : List Sq36.Deed → Sq28.Tree → Sq36.House × Sq36.Out} (hk : k < h.hands) (ht : Sq28.there (h.tree k) y = true) : h.at_ k y f = f (h.had k) (h.tree k) := by
  unfold Sq36.House.at_
  rw [if_neg (by omega), if_neg (by rw [ht]; exact Bool.noConfusion)]
theorem try_no {h : Sq36.House} {k : Nat} {a : Sq36.Act} {f : Sq36.House → Sq36.House × Sq36.Out} (hf : 100 ≤ h.all.length) : h.try_ k a f = (h, Sq36.says (-5)) := if_pos hf
theorem try_yes {h : Sq36.House} {k : Nat} {a : Sq36.Act} {f : Sq36.House → Sq36.House × Sq36.Out} (hf : ¬ 100 ≤ h.all.length) : h.try_ k a f = f (h.does k a) := if_neg hf
theorem not_dec {p : Prop} [Decidable p] (h : p) : (!decide p) = false := by rw [decide_eq_true h]; rfl
theorem not_dec' {p : Prop} [Decidable p] (h : ¬ p) : (!decide p) = true := by rw [decide_eq_false h]; rfl
/-! ### refusal_about, refusal_to_thing, do_to_thing -/
def refusal0 (h : Sq36.House) (k y : Nat) : Int := if h.hands ≤ k then -2 else if Sq28.there (h.tree k) y = false then -3 else 0
def sp_refusal_about (A : Ad) : Sp := fun vs H Q _ => ∃ (c : Cells) (h : Sq36.House) (k y : Nat), vs = [.ref c.hs, .int (k : Int), .int (y : Int)] ∧ HouseAt A c H h ∧ ∀ H', Same H H' → Q (.int (refusal0 h k y)) H'
theorem ok_refusal_about (T : Txt K mg A D) : FnOk P w K mg base CX0 7 A.f_refusal_about D.d_refusal_about ["house", "desk", "thing"] (sp_refusal_about A) := by
  refine T.f_refusal_about.ok sc_refusal_about (fun vs H Q E h => ?_) (fun cdv ar outer s H vs Q E hr h => have hu := hu_of hr; ⟨_, (pss_cons (ps_if (pt_not (pt_val (pe_call (ok_has_desk T) (by exact hr.mono (by decide)) (by rfl) T.m_has_desk T.f_has_desk.kp T.b_has_desk .nil pass0 (pa_cons (pv 0) (pa_cons (pv 1) pa_nil)))))
      (pss_one (ps_ret (pe_glob (v := .int (-2)) (by rfl) (Classical.choose_spec T.g_NO_DESK) ⟨_, rfl⟩)))
      pss_nil)
    (pss_cons (ps_if (pt_not (pt_val (pe_call (ok_is_there T) (by exact hr.mono (by decide)) (by rfl) T.m_is_there T.f_is_there.kp T.b_is_there .nil pass0 (pa_cons (pe_fld (pe_call (ok_outline_of T) (by exact hr.mono (by decide)) (by rfl) T.m_outline_of T.f_outline_of.kp T.b_outline_of .nil pass0 (pa_cons (pv 0) (pa_cons (pv 1) pa_nil))) (by rfl)) (pa_cons (pv 2) pa_nil)))))
      (pss_one (ps_ret (pe_glob (v := .int (-3)) (by rfl) (Classical.choose_spec T.g_NOT_THERE) ⟨_, rfl⟩)))
      pss_nil)
    (pss_one (ps_ret (pe_glob (v := .int (0)) (by rfl) (Classical.choose_spec T.g_NOT_REFUSED) ⟨_, rfl⟩))))), ?_⟩)
  · obtain ⟨c, h, k, y, rfl, _⟩ := h; rfl
  · obtain ⟨c, h, k, y, rfl, x, q⟩ := h
    unfold refusal0 at q
    refine ⟨_, rfl, _, rfl, c, h, k, rfl, x, _, rfl, ?_⟩
    by_cases hk : k < h.hands
    · rw [decide_eq_true hk]
      rw [if_neg (by omega)] at q
      refine iteF ⟨_, rfl, _, rfl, c, h, k, rfl, x, hk, fun H1 o dl hl pl kvs s1 _ _ _ _ ho => ho.ob.places T ⟨_, rfl, pl, y, c.ad, kvs, _, rfl, ho.tr.pl, _, rfl, ?_⟩⟩
      have q1 := q H1 s1
      cases ht : Sq28.there (Sq36.treeOf (h.had k)) y with
      | false =>
        rw [if_pos (by exact ht)] at q1
        exact iteT q1
      | true =>
        rw [if_neg (by show ¬ Sq28.there (Sq36.treeOf (h.had k)) y = false; rw [ht]; exact Bool.noConfusion)] at q1
        exact iteF q1
    · rw [decide_eq_false hk]
      rw [if_pos (by omega)] at q
      exact iteT (q H (Same.refl _))
def refusal (h : Sq36.House) (k y : Nat) (wrong : Bool) : Int := if h.hands ≤ k then -2 else if Sq28.there (h.tree k) y = false then -3 else if wrong = true then -1 else if 100 ≤ h.all.length then -5 else 0
def sp_refusal_to_thing (A : Ad) : Sp := fun vs H Q _ => ∃ (c : Cells) (h : Sq36.House) (k y : Nat) (wrong : Bool), vs = [.ref c.hs, .int (k : Int), .bl wrong, .int (y : Int)] ∧ HouseAt A c H h ∧ ∀ H', Same H H' → Q (.int (refusal h k y wrong)) H'
theorem ok_refusal_to_thing (T : Txt K mg A D) : FnOk P w K mg base CX0 8 A.f_refusal_to_thing D.d_refusal_to_thing ["house", "desk", "is_wrong", "thing"] (sp_refusal_to_thing A) := by
  refine T.f_refusal_to_thing.ok sc_refusal_to_thing (fun vs H Q E h => ?_) (fun cdv ar outer s H vs Q E hr h => have hu := hu_of hr; ⟨_, (pss_cons (ps_set (i := 4) sc_refusal_to_thing.nd rfl (Or.inl rfl) (pe_call (ok_refusal_about T) (by exact hr.mono (by decide)) (by rfl) T.m_refusal_about T.f_refusal_about.kp T.b_refusal_about .nil pass0 (pa_cons (pv 0) (pa_cons (pv 1) (pa_cons (pv 3) pa_nil)))))
    (pss_cons (ps_if (pt_cmpR op_ne (pv 4) (pe_glob (v := .int (0)) (by rfl) (Classical.choose_spec T.g_NOT_REFUSED) ⟨_, rfl⟩) (nomark _))
      (pss_one (ps_ret (pv 4)))
      pss_nil)
    (pss_cons (ps_if (pt_val (pv 2))
      (pss_one (ps_ret (pe_glob (v := .int (-1)) (by rfl) (Classical.choose_spec T.g_WRONG) ⟨_, rfl⟩)))
      pss_nil)
    (pss_cons (ps_if (pt_val (pe_call (ok_is_full T) (by exact hr.mono (by decide)) (by rfl) T.m_is_full T.f_is_full.kp T.b_is_full .nil pass0 (pa_cons (pv 0) pa_nil)))
      (pss_one (ps_ret (pe_glob (v := .int (-5)) (by rfl) (Classical.choose_spec T.g_FULL) ⟨_, rfl⟩)))
      pss_nil)
    (pss_one (ps_ret (pe_glob (v := .int (0)) (by rfl) (Classical.choose_spec T.g_NOT_REFUSED) ⟨_, rfl⟩))))))), ?_⟩)
  · obtain ⟨c, h, k, y, wrong, rfl, _⟩ := h; rfl
  · obtain ⟨c, h, k, y, wrong, rfl, x, q⟩ := h
    unfold refusal at q
    refine ⟨_, rfl, _, rfl, _, rfl, c, h, k, y, rfl, x, fun H1 s1 => ⟨_, rfl, rfl, _, rfl, ?_⟩⟩
    have q1 := q H1 s1
    have x1 := x.same s1
    by_cases hk : k < h.hands
    · rw [if_neg (by omega)] at q1
      cases ht : Sq28.there (h.tree k) y with
      | false =>
        have e : refusal0 h k y = -3 := by unfold refusal0; rw [if_neg (by omega), if_pos ht]
        rw [if_pos ht] at q1
        rw [e, not_dec' (fun q => by injection q with q; omega)]
        exact iteT ⟨_, rfl, q1⟩
      | true =>
        have e : refusal0 h k y = 0 := by unfold refusal0; rw [if_neg (by omega), if_neg (by rw [ht]; exact Bool.noConfusion)]
        rw [if_neg (by rw [ht]; exact Bool.noConfusion)] at q1
        rw [e, not_dec rfl]
        refine iteF ⟨_, rfl, _, rfl, ?_⟩
        cases wrong with
        | true => exact iteT q1
        | false =>
          rw [if_neg Bool.false_ne_true] at q1
          refine iteF ⟨_, rfl, c, h, rfl, x1, _, rfl, ?_⟩
          by_cases hf : 100 ≤ h.all.length
          · rw [if_pos hf] at q1; rw [decide_eq_true hf]; exact iteT q1
          · rw [if_neg hf] at q1; rw [decide_eq_false hf]; exact iteF q1
    · rw [if_pos (by omega)] at q1
      have e : refusal0 h k y = -2 := by unfold refusal0; rw [if_pos (by omega)]
      rw [e, not_dec' (fun q => by injection q with q; omega)]
      exact iteT ⟨_, rfl, q1⟩
/-- the acts upon a thing -/
def actThing : Sq36.Act → Option Nat
  | .tell x _ _ => some x
  | .clear x _ => some x
  | .add x _ => some x
  | _ => none
def told (h : Sq36.House) (k y : Nat) (wrong : Bool) (a : Sq36.Act) : Sq36.House × Sq36.Out :=
  h.at_ k y fun _ _ => if wrong = true then (h, Sq36.says (-1)) else h.try_ k a fun u => (u, Sq36.says h.all.length)
def sp_do_to_thing (A : Ad) : Sp := fun vs H Q _ => ∃ (c : Cells) (h : Sq36.House) (k y : Nat) (wrong : Bool) (a : Sq36.Act) (r : Addr), vs = [.ref c.hs, .int (k : Int), .bl wrong, .ref r] ∧ HouseAt A c H h ∧ ActAt A H r a ∧ ¬ c.M h.hands r ∧ actThing a = some y ∧ Res A c h H (told h k y wrong a) Q
theorem ok_do_to_thing (T : Txt K mg A D) : FnOk P w K mg base CX0 9 A.f_do_to_thing D.d_do_to_thing ["house", "desk", "is_wrong", "act"] (sp_do_to_thing A) := by
  refine T.f_do_to_thing.ok sc_do_to_thing (fun vs H Q E h => ?_) (fun cdv ar outer s H vs Q E hr h => have hu := hu_of hr; ⟨_, (pss_cons (ps_set (i := 4) sc_do_to_thing.nd rfl (Or.inl rfl) (pe_call (ok_refusal_to_thing T) (by exact hr.mono (by decide)) (by rfl) T.m_refusal_to_thing T.f_refusal_to_thing.kp T.b_refusal_to_thing .nil pass0 (pa_cons (pv 0) (pa_cons (pv 1) (pa_cons (pv 2) (pa_cons (pe_fld (pv 3) (by rfl)) pa_nil))))))
    (pss_cons (ps_if (pt_cmpR op_ne (pv 4) (pe_glob (v := .int (0)) (by rfl) (Classical.choose_spec T.g_NOT_REFUSED) ⟨_, rfl⟩) (nomark _))
      (pss_one (ps_ret (pe_lst (pa_cons (pv 4) pa_nil))))
      pss_nil)
    (pss_one (ps_ret (pe_lst (pa_cons (pe_call (ok_do_deed T) (by exact hr.mono (by decide)) (by rfl) T.m_do_deed T.f_do_deed.kp T.b_do_deed .nil pass0 (pa_cons (pv 0) (pa_cons (pv 1) (pa_cons (pv 3) pa_nil)))) pa_nil)))))), ?_⟩)
  · obtain ⟨c, h, k, y, wrong, a, r, rfl, _⟩ := h; rfl
  · obtain ⟨c, h, k, y, wrong, a, r, rfl, x, ha, nr, ht, res⟩ := h
    have fld : ∀ {R : V → Prop}, R (.int (y : Int)) → ∃ a' C dx fs v, V.ref r = .ref a' ∧ H a' = some (.ins C dx fs) ∧ Cls K C ∧ NoAttr K C "thing" ∧ fs.lookup ("thing" : Str) = some v ∧ R v := by
      intro R hR
      cases a <;> simp only [actThing] at ht
      · cases ht
      · cases ht; exact obTelling.thing T ha hR
      · cases ht; exact obClearing.thing T ha hR
      · cases ht; exact obAdding.thing T ha hR
      · cases ht
      · cases ht
    refine ⟨_, rfl, _, rfl, _, rfl, _, rfl, fld ⟨c, h, k, y, wrong, rfl, x, fun H1 s1 => ?_⟩⟩
    have x1 := x.same s1
    refine ⟨_, rfl, rfl, _, rfl, ?_⟩
    have rz : ∀ {z : Int}, refusal h k y wrong = z → z ≠ 0 → told h k y wrong a = (h, Sq36.says z) → (if (!decide (V.int (refusal h k y wrong) = V.int 0)) = true then tRet (tLst (tCons (tVar 4) tNil)) { nx := tRet (tLst (tCons (tCall (sp_do_deed A) [] E0 (tCons (tVar 0) (tCons (tVar 1) (tCons (tVar 3) tNil)))) tNil)) { nx := fun _ H' => Q .non H', rt := Q }, rt := Q } [some (.ref c.hs), some (.int (k : Int)), some (.bl wrong), some (.ref r), some (.int (refusal h k y wrong))] H1 else
        tNext { nx := tRet (tLst (tCons (tCall (sp_do_deed A) [] E0 (tCons (tVar 0) (tCons (tVar 1) (tCons (tVar 3) tNil)))) tNil)) { nx := fun _ H' => Q .non H', rt := Q }, rt := Q } [some (.ref c.hs), some (.int (k : Int)), some (.bl wrong), some (.ref r), some (.int (refusal h k y wrong))] H1) := by
      intro z ez nz et
      rw [ez, not_dec' (fun q => nz (by injection q))]
      exact iteT ⟨_, rfl, refuse x1 s1 res et⟩
    by_cases hk : k < h.hands
    · cases hth : Sq28.there (h.tree k) y with
      | false => exact rz (z := -3) (by unfold refusal; rw [if_neg (by omega), if_pos hth]) (by decide) (by unfold told; rw [at_not hk hth])
      | true =>
        cases wrong with
        | true => exact rz (z := -1) (by unfold refusal; rw [if_neg (by omega), if_neg (by rw [hth]; exact Bool.noConfusion), if_pos rfl]) (by decide) (by unfold told; rw [at_yes hk hth, if_pos rfl])
        | false =>
          by_cases hf : 100 ≤ h.all.length
          · exact rz (z := -5) (by unfold refusal; rw [if_neg (by omega), if_neg (by rw [hth]; exact Bool.noConfusion), if_neg Bool.false_ne_true, if_pos hf]) (by decide) (by unfold told; rw [at_yes hk hth, if_neg Bool.false_ne_true, try_no hf])
          · have ez : refusal h k y false = 0 := by unfold refusal; rw [if_neg (by omega), if_neg (by rw [hth]; exact Bool.noConfusion), if_neg Bool.false_ne_true, if_neg hf]
            have et : told h k y false a = (h.does k a, Sq36.says h.all.length) := by unfold told; rw [at_yes hk hth, if_neg Bool.false_ne_true, try_yes hf]
            rw [et] at res
            rw [ez, not_dec rfl]
            have okn : Ok (h.does k a) := x.ok.plain hk (by omega) (by
              cases a <;> simp only [actThing] at ht
              · cases ht
              · exact .inl ⟨_, _, _, rfl⟩
              · exact .inr (.inl ⟨_, _, rfl⟩)
              · exact .inr (.inr ⟨_, _, rfl⟩)
              · cases ht
              · cases ht)
            refine iteF ⟨_, rfl, _, rfl, _, rfl, c, h, k, a, r, rfl, x1, hk, by omega, ha.keep fun o e => s1 _ _ e, nr, okn, fun H' c' e1 e2 e3 kp x' => ⟨by show 1 ≤ sizeLine; decide, finish x res e1 e3 rfl e2 (fun b o nb e => kp b o nb (s1 _ _ e)) x' rfl⟩⟩
    · exact rz (z := -2) (by unfold refusal; rw [if_pos (by omega)]) (by decide) (by unfold told; rw [at_no hk])
end
end Ho
end

section
set_option Elab.async false
set_option maxRecDepth 100000
set_option maxHeartbeats 4000000
/-! tell, clear, add, less, make, move -/
namespace Ho
open PySem PySem.W PyProof.Rows L2
section
variable {P : Program} {w : World} {K : PySem.W.Frag} {mg : Str → Option Value} {base : Heap} {A : Ad} {D : Fd}
theorem Res.same {c : Cells} {h : Sq36.House} {H H1 : Hp} {r : Sq36.House × Sq36.Out} {Q : VK} (res : Res A c h H r Q) (s : Same H H1) : Res A c h H1 r Q :=
  fun H' c' p e e' x f n hp => res H' c' p e e' x (fun b o nb e => f b o nb (s _ _ e)) (s.free n) hp
theorem told_eq {h : Sq36.House} {k y : Nat} {p : Prop} [Decidable p] {b : Bool} {a : Sq36.Act} (e : b = decide p) : (h.at_ k y fun _ _ => if p then (h, Sq36.says (-1)) else h.try_ k a fun u => (u, Sq36.says h.all.length)) = told h k y b a := by
  unfold told
  congr 1
  funext _ _
  rw [e]
  by_cases q : p
  · rw [if_pos q, if_pos (decide_eq_true q)]
  · rw [if_neg q, if_neg (by rw [decide_eq_false q]; exact Bool.false_ne_true)]
theorem if_true' {c : Bool} {A B : Prop} (hc : c = true) (h : A) : if c = true then A else B := by
  rw [if_pos hc]
  exact h
theorem if_false' {c : Bool} {A B : Prop} (hc : c = false) (h : B) : if c = true then A else B := by
  rw [hc, if_neg Bool.false_ne_true]
  exact h
theorem gt_nat (a b : Nat) : decide ((b : Int) < (a : Int)) = decide (b < a) := dec_lt b a
def sp_tell (A : Ad) : Sp := fun vs H Q _ => ∃ (c : Cells) (h : Sq36.House) (k y f v : Nat), vs = [.ref c.hs, .int (k : Int), .int (y : Int), .int (f : Int), .int (v : Int)] ∧ HouseAt A c H h ∧ Res A c h H (h.step (.tell k y f v)) Q
theorem ok_tell (T : Txt K mg A D) : FnOk P w K mg base CX0 10 A.f_tell D.d_tell ["house", "desk", "thing", "field", "value"] (sp_tell A) := by
  refine T.f_tell.ok sc_tell (fun vs H Q E h => ?_) (fun cdv ar outer s H vs Q E hr h => have hu := hu_of hr; ⟨_, (pss_one (ps_ret (pe_call (ok_do_to_thing T) (by exact hr.mono (by decide)) (by rfl) T.m_do_to_thing T.f_do_to_thing.kp T.b_do_to_thing .nil pass0 (pa_cons (pv 0) (pa_cons (pv 1) (pa_cons (pe_or (pe_cmpR op_gt (pv 3) (pe_glob (v := .int (2)) (by rfl) (Classical.choose_spec T.g_LAST_FIELD) ⟨_, rfl⟩) (nomark _)) (pe_one (pe_cmpR op_gt (pv 4) (pe_glob (v := .int (1000000000)) (by rfl) (Classical.choose_spec T.g_GREATEST_TOLD) ⟨_, rfl⟩) (nomark _)))) (pa_cons (pe_make T.mk_Telling (ok_Telling_init T) (by exact hr.mono (by decide)) (by rfl) T.c_Telling T.b_Telling_init .nil pass0 (pa_cons (pv 2) (pa_cons (pv 3) (pa_cons (pv 4) pa_nil)))) pa_nil))))))), ?_⟩)
  · obtain ⟨c, h, k, y, f, v, rfl, _⟩ := h; rfl
  · obtain ⟨c, h, k, y, f, v, rfl, x, res⟩ := h
    have res : Res A c h H (told h k y (decide (2 < f) || decide (1000000000 < v)) (.tell y f v)) Q := by
      have e : h.step (.tell k y f v) = told h k y (decide (2 < f) || decide (1000000000 < v)) (.tell y f v) := told_eq (p := Sq36.FIELDS ≤ f ∨ Sq36.VALUE < v) (by
        by_cases c1 : 2 < f
        · rw [decide_eq_true c1, Bool.true_or]; exact (decide_eq_true (.inl c1)).symm
        · rw [decide_eq_false c1, Bool.false_or]
          by_cases c2 : 1000000000 < v
          · rw [decide_eq_true c2]; exact (decide_eq_true (.inr c2)).symm
          · rw [decide_eq_false c2]; exact (decide_eq_false (fun z => z.elim (fun q => c1 q) fun q => c2 q)).symm)
      rw [e] at res; exact res
    have g1 : decide ((2 : Int) < (f : Int)) = decide (2 < f) := dec_lt 2 f
    have g2 : decide ((1000000000 : Int) < (v : Int)) = decide (1000000000 < v) := dec_lt 1000000000 v
    refine ⟨_, rfl, _, rfl, _, rfl, _, _, rfl, rfl, decide (2 < f), (by rw [← g1]), ?_⟩
    have go : ∀ b, b = (decide (2 < f) || decide (1000000000 < v)) → tCons (tMake A.Telling (sp_Telling_init A) [] E0 (tCons (tVar 2) (tCons (tVar 3) (tCons (tVar 4) tNil)))) tNil [some (.ref c.hs), some (.int (k : Int)), some (.int (y : Int)), some (.int (f : Int)), some (.int (v : Int))] H fun xs H2 => sp_do_to_thing A ((V.ref c.hs :: V.int (k : Int) :: V.bl b :: xs) ++ []) H2 Q E0 := by
      intro b eb
      subst eb
      refine ⟨_, rfl, _, rfl, _, rfl, mk_Telling fun r H1 nr s1 hr1 => ?_⟩
      exact ⟨c, h, k, y, _, .tell y f v, r, rfl, x.same s1, hr1, x.fresh nr, rfl, res.same s1⟩
    by_cases c1 : 2 < f
    · rw [decide_eq_true c1] at go ⊢
      exact iteT (go true rfl)
    · rw [decide_eq_false c1] at go ⊢
      refine iteF ⟨_, rfl, _, _, rfl, rfl, ?_⟩
      exact go _ g2
def sp_clear_field (A : Ad) : Sp := fun vs H Q _ => ∃ (c : Cells) (h : Sq36.House) (k y f : Nat), vs = [.ref c.hs, .int (k : Int), .int (y : Int), .int (f : Int)] ∧ HouseAt A c H h ∧ Res A c h H (h.step (.clear k y f)) Q
theorem ok_clear_field (T : Txt K mg A D) : FnOk P w K mg base CX0 10 A.f_clear_field D.d_clear_field ["house", "desk", "thing", "field"] (sp_clear_field A) := by
  refine T.f_clear_field.ok sc_clear_field (fun vs H Q E h => ?_) (fun cdv ar outer s H vs Q E hr h => have hu := hu_of hr; ⟨_, (pss_one (ps_ret (pe_call (ok_do_to_thing T) (by exact hr.mono (by decide)) (by rfl) T.m_do_to_thing T.f_do_to_thing.kp T.b_do_to_thing .nil pass0 (pa_cons (pv 0) (pa_cons (pv 1) (pa_cons (pe_cmpR op_gt (pv 3) (pe_glob (v := .int (2)) (by rfl) (Classical.choose_spec T.g_LAST_FIELD) ⟨_, rfl⟩) (nomark _)) (pa_cons (pe_make T.mk_Clearing (ok_Clearing_init T) (by exact hr.mono (by decide)) (by rfl) T.c_Clearing T.b_Clearing_init .nil pass0 (pa_cons (pv 2) (pa_cons (pv 3) pa_nil))) pa_nil))))))), ?_⟩)
  · obtain ⟨c, h, k, y, f, rfl, _⟩ := h; rfl
  · obtain ⟨c, h, k, y, f, rfl, x, res⟩ := h
    have e : h.step (.clear k y f) = told h k y (decide ((2 : Int) < (f : Int))) (.clear y f) := told_eq (p := Sq36.FIELDS ≤ f) (dec_lt 2 f)
    rw [e] at res
    refine ⟨_, rfl, _, rfl, _, rfl, _, _, rfl, rfl, _, rfl, _, rfl, mk_Clearing fun r H1 nr s1 hr1 => ?_⟩
    exact ⟨c, h, k, y, _, .clear y f, r, rfl, x.same s1, hr1, x.fresh nr, rfl, res.same s1⟩
def sp_add_amount (A : Ad) : Sp := fun vs H Q _ => ∃ (c : Cells) (h : Sq36.House) (k y v : Nat), vs = [.ref c.hs, .int (k : Int), .int (y : Int), .int (v : Int)] ∧ HouseAt A c H h ∧ Res A c h H (h.step (.add k y v)) Q
theorem ok_add_amount (T : Txt K mg A D) : FnOk P w K mg base CX0 10 A.f_add_amount D.d_add_amount ["house", "desk", "thing", "amount"] (sp_add_amount A) := by
  refine T.f_add_amount.ok sc_add_amount (fun vs H Q E h => ?_) (fun cdv ar outer s H vs Q E hr h => have hu := hu_of hr; ⟨_, (pss_one (ps_ret (pe_call (ok_do_to_thing T) (by exact hr.mono (by decide)) (by rfl) T.m_do_to_thing T.f_do_to_thing.kp T.b_do_to_thing .nil pass0 (pa_cons (pv 0) (pa_cons (pv 1) (pa_cons (pe_cmpR op_gt (pv 3) (pe_glob (v := .int (1000000000)) (by rfl) (Classical.choose_spec T.g_GREATEST_TOLD) ⟨_, rfl⟩) (nomark _)) (pa_cons (pe_make T.mk_Adding (ok_Adding_init T) (by exact hr.mono (by decide)) (by rfl) T.c_Adding T.b_Adding_init .nil pass0 (pa_cons (pv 2) (pa_cons (pv 3) pa_nil))) pa_nil))))))), ?_⟩)
  · obtain ⟨c, h, k, y, v, rfl, _⟩ := h; rfl
  · obtain ⟨c, h, k, y, v, rfl, x, res⟩ := h
    have e : h.step (.add k y v) = told h k y (decide ((1000000000 : Int) < (v : Int))) (.add y v) := told_eq (p := Sq36.VALUE < v) (dec_lt 1000000000 v)
    rw [e] at res
    refine ⟨_, rfl, _, rfl, _, rfl, _, _, rfl, rfl, _, rfl, _, rfl, mk_Adding fun r H1 nr s1 hr1 => ?_⟩
    exact ⟨c, h, k, y, _, .add y v, r, rfl, x.same s1, hr1, x.fresh nr, rfl, res.same s1⟩
def sp_less_amount (A : Ad) : Sp := fun vs H Q _ => ∃ (c : Cells) (h : Sq36.House) (k y v : Nat), vs = [.ref c.hs, .int (k : Int), .int (y : Int), .int (v : Int)] ∧ HouseAt A c H h ∧ Res A c h H (h.step (.less k y v)) Q
theorem ok_less_amount (T : Txt K mg A D) : FnOk P w K mg base CX0 10 A.f_less_amount D.d_less_amount ["house", "desk", "thing", "amount"] (sp_less_amount A) := by
  refine T.f_less_amount.ok sc_less_amount (fun vs H Q E h => ?_) (fun cdv ar outer s H vs Q E hr h => have hu := hu_of hr; ⟨_, (pss_one (ps_ret (pe_call (ok_do_to_thing T) (by exact hr.mono (by decide)) (by rfl) T.m_do_to_thing T.f_do_to_thing.kp T.b_do_to_thing .nil pass0 (pa_cons (pv 0) (pa_cons (pv 1) (pa_cons (pe_cmpR op_gt (pv 3) (pe_glob (v := .int (1000000000)) (by rfl) (Classical.choose_spec T.g_GREATEST_TOLD) ⟨_, rfl⟩) (nomark _)) (pa_cons (pe_make T.mk_Adding (ok_Adding_init T) (by exact hr.mono (by decide)) (by rfl) T.c_Adding T.b_Adding_init .nil pass0 (pa_cons (pv 2) (pa_cons (pe_un un_neg (pv 3)) pa_nil))) pa_nil))))))), ?_⟩)
  · obtain ⟨c, h, k, y, v, rfl, _⟩ := h; rfl
  · obtain ⟨c, h, k, y, v, rfl, x, res⟩ := h
    have e : h.step (.less k y v) = told h k y (decide ((1000000000 : Int) < (v : Int))) (.add y (-(v : Int))) := told_eq (p := Sq36.VALUE < v) (dec_lt 1000000000 v)
    rw [e] at res
    refine ⟨_, rfl, _, rfl, _, rfl, _, _, rfl, rfl, _, rfl, _, rfl, _, rfl, mk_Adding fun r H1 nr s1 hr1 => ?_⟩
    exact ⟨c, h, k, y, _, .add y (-(v : Int)), r, rfl, x.same s1, hr1, x.fresh nr, rfl, res.same s1⟩
/-! ### make, move -/
theorem ok_things {h : Sq36.House} (o : Ok h) {t : Nat} (ht : 2 ≤ t) : Ok { h with things := t } := ⟨o.lo, o.hi, o.desks, o.deeds, o.full, o.desk, o.letters, o.lfull, ht⟩
theorem HouseAt.things {c : Cells} {H H' : Hp} {h : Sq36.House} {t : Nat} (x : HouseAt A c H h) (ht : 2 ≤ t) (o : ∀ b, b ≠ c.hs → H' b = H b) (ob : obHouse A H' c.hs (.ref c.dk) (.ref c.dl) (.ref c.lt) (.int (t : Int))) : HouseAt A c H' { h with things := t } ∧ Keep (c.M0 h.hands) H H' := by
  have kp : Keep (c.M0 h.hands) H H' := fun b u nb e => by rw [o b (fun z => nb (by rw [z]; exact c.inM .hs trivial))]; exact e
  refine ⟨⟨ok_things x.ok ht, ob, kp.up _ _ x.ndk x.dk, x.ndk, ?_, x.dd.keep kp.up, ?_, fun k hk => ?_, fun i m hm => let ⟨ns, q⟩ := x.letter i m hm; ⟨ns, q.keep kp.up⟩, x.apart, (fun b hb z => ?_), ⟨x.late.letter, x.late.lclock, x.late.heard, x.late.hclock, x.late.len, x.late.gone⟩, fun k hk => ?_⟩, kp⟩
  · rw [o _ (Ne.symm x.apart.h1)]; exact x.dl
  · rw [o _ (Ne.symm x.apart.h2)]; exact x.lt
  · have d := x.desk k hk
    refine d.stand rfl rfl rfl rfl rfl rfl (fun t ht => o _ (x.apart.ne t .hs ?_ trivial fun z => by subst z; exact ht)) kp.up fun b u _ nb => nb
    cases t <;> first | exact ht.elim | (cases ht; exact hk)
  · cases y : H b with
    | none => exact x.frt b hb y
    | some u => rw [kp b u (x.apart.fr b hb) y] at z; cases z
  · refine (x.fa k hk).keep fun u e => ?_
    rw [o (c.fa k) (x.apart.ne (.fa k) .hs hk trivial (fun z => by cases z))]
    exact e
def sp_make (A : Ad) : Sp := fun vs H Q _ => ∃ (c : Cells) (h : Sq36.House) (k u i : Nat), vs = [.ref c.hs, .int (k : Int), .int (u : Int), .int (i : Int)] ∧ HouseAt A c H h ∧ Res A c h H (h.step (.make k u i)) Q
set_option maxHeartbeats 8000000 in
theorem ok_make (T : Txt K mg A D) : FnOk P w K mg base CX0 7 A.f_make D.d_make ["house", "desk", "under", "i"] (sp_make A) := by
  refine T.f_make.ok sc_make (fun vs H Q E h => ?_) (fun cdv ar outer s H vs Q E hr h => have hu := hu_of hr; ⟨_, (pss_cons (ps_if (pt_not (pt_val (pe_call (ok_has_desk T) (by exact hr.mono (by decide)) (by rfl) T.m_has_desk T.f_has_desk.kp T.b_has_desk .nil pass0 (pa_cons (pv 0) (pa_cons (pv 1) pa_nil)))))
      (pss_one (ps_ret (pe_lst (pa_cons (pe_glob (v := .int (-2)) (by rfl) (Classical.choose_spec T.g_NO_DESK) ⟨_, rfl⟩) pa_nil))))
      pss_nil)
    (pss_cons (ps_set (i := 4) sc_make.nd rfl (Or.inl rfl) (pe_call (ok_outline_of T) (by exact hr.mono (by decide)) (by rfl) T.m_outline_of T.f_outline_of.kp T.b_outline_of .nil pass0 (pa_cons (pv 0) (pa_cons (pv 1) pa_nil))))
    (pss_cons (ps_if (pt_not (pt_val (pe_call (ok_is_there T) (by exact hr.mono (by decide)) (by rfl) T.m_is_there T.f_is_there.kp T.b_is_there .nil pass0 (pa_cons (pe_fld (pv 4) (by rfl)) (pa_cons (pv 2) pa_nil)))))
      (pss_one (ps_ret (pe_lst (pa_cons (pe_glob (v := .int (-3)) (by rfl) (Classical.choose_spec T.g_NOT_THERE) ⟨_, rfl⟩) pa_nil))))
      pss_nil)
    (pss_cons (ps_set (i := 5) sc_make.nd rfl (Or.inl rfl) (pe_call (ok_row_of T) (by exact hr.mono (by decide)) (by rfl) T.m_row_of T.f_row_of.kp T.b_row_of .nil pass0 (pa_cons (pv 4) (pa_cons (pv 2) pa_nil))))
    (pss_cons (ps_if (pt_cmpR op_gt (pv 3) (pe_callB call_len_seq (by rfl) T.n_len PySem.boot_len (pa_cons (pv 5) pa_nil)) (nomark _))
      (pss_one (ps_ret (pe_lst (pa_cons (pe_glob (v := .int (-1)) (by rfl) (Classical.choose_spec T.g_WRONG) ⟨_, rfl⟩) pa_nil))))
      pss_nil)
    (pss_cons (ps_if (pt_val (pe_call (ok_is_full T) (by exact hr.mono (by decide)) (by rfl) T.m_is_full T.f_is_full.kp T.b_is_full .nil pass0 (pa_cons (pv 0) pa_nil)))
      (pss_one (ps_ret (pe_lst (pa_cons (pe_glob (v := .int (-5)) (by rfl) (Classical.choose_spec T.g_FULL) ⟨_, rfl⟩) pa_nil))))
      pss_nil)
    (pss_cons (ps_set (i := 6) sc_make.nd rfl (Or.inl rfl) (pe_fld (pv 0) (by rfl)))
    (pss_cons (ps_fld (pv 0) (pe_op op_add (pv 6) pe_int) (by rfl))
    (pss_one (ps_ret (pe_lst (pa_cons (pe_call (ok_do_deed T) (by exact hr.mono (by decide)) (by rfl) T.m_do_deed T.f_do_deed.kp T.b_do_deed .nil pass0 (pa_cons (pv 0) (pa_cons (pv 1) (pa_cons (pe_call (ok_put_behind T) (by exact hr.mono (by decide)) (by rfl) T.m_put_behind T.f_put_behind.kp T.b_put_behind .nil pass0 (pa_cons (pv 4) (pa_cons (pv 6) (pa_cons (pv 2) (pa_cons (pv 5) (pa_cons (pv 3) pa_nil)))))) pa_nil)))) (pa_cons (pv 6) pa_nil))))))))))))), ?_⟩)
  · obtain ⟨c, h, k, u, i, rfl, _⟩ := h; rfl
  · obtain ⟨c, h, k, u, i, rfl, x, res⟩ := h
    have st : h.step (.make k u i) = h.at_ k u fun l t => if (Sq36.row l t u).length < i then (h, Sq36.says (-1)) else h.try_ k (.put h.things u (Sq36.spotIn l u (Sq36.row l t u) i).1 (Sq36.spotIn l u (Sq36.row l t u) i).2) fun v => ({ v with things := h.things + 1 }, ⟨h.all.length, [(h.things : Int)]⟩) := rfl
    refine ⟨_, rfl, _, rfl, c, h, k, rfl, x, _, rfl, ?_⟩
    by_cases hk : k < h.hands
    case neg =>
      rw [decide_eq_false hk]
      exact iteT (refuse x (Same.refl _) res (by rw [st, at_no hk]))
    rw [decide_eq_true hk]
    refine iteF ⟨_, rfl, _, rfl, c, h, k, rfl, x, hk, fun H1 o dl hl pl kvs s1 no nd nh np ho => ?_⟩
    have x1 := x.same s1
    refine ⟨_, rfl, ho.ob.places T ⟨_, rfl, pl, u, c.ad, kvs, _, rfl, ho.tr.pl, _, rfl, ?_⟩⟩
    cases ht : Sq28.there (Sq36.treeOf (h.had k)) u with
    | false => exact iteT (refuse x1 s1 res (by rw [st, at_not hk ht]))
    | true =>
      rw [at_yes hk ht] at st
      refine iteF ⟨_, rfl, _, rfl, o, dl, hl, pl, u, kvs, _, c.ad, _, rfl, ho, (had_dd x1 k), x.ok.wf k, fun H2 ra s2 n2 hra => ?_⟩
      have x2 := x1.same s2
      refine ⟨_, rfl, _, rfl, ra, _, rfl, .inl (.of hra), _, _, rfl, rfl, _, rfl, ?_⟩
      rw [rfs_len]
      have gi : decide (((Sq36.row (h.had k) (Sq36.treeOf (h.had k)) u).length : Int) < (i : Int)) = decide ((Sq36.row (h.had k) (Sq36.treeOf (h.had k)) u).length < i) := dec_lt _ _
      by_cases hi : (Sq36.row (h.had k) (Sq36.treeOf (h.had k)) u).length < i
      · rw [decide_eq_true hi] at gi
        refine if_true' gi (refuse x2 (s1.trans s2) res ?_)
        rw [st]
        exact if_pos hi
      · rw [decide_eq_false hi] at gi
        refine if_false' gi ⟨_, rfl, c, h, rfl, x2, _, rfl, ?_⟩
        have st2 := st.trans (if_neg hi)
        by_cases hf : 100 ≤ h.all.length
        · rw [decide_eq_true hf]
          exact iteT (refuse x2 (s1.trans s2) res (by rw [st2, try_no hf]))
        · rw [decide_eq_false hf]
          rw [st2, try_yes hf] at res
          refine iteF ⟨_, rfl, x2.ob.next_thing T ⟨_, rfl, _, _, rfl, rfl, _, rfl, x2.ob.set_next_thing T _ fun H3 o3 ob3 => ?_⟩⟩
          obtain ⟨x3, k3⟩ := x2.things (t := h.things + 1) (by have := x.ok.things; omega) o3 ob3
          have nM : ∀ {b : Addr}, H b = none → ¬ c.M h.hands b := fun e => x.fresh e
          have ho3 := (ho.same s2).keep (nM no) (nM nd) (nM nh) (nM np) k3.up
          have nra : ¬ c.M h.hands ra := x1.fresh n2
          refine ⟨_, rfl, _, rfl, _, rfl, _, rfl, _, rfl, _, rfl, _, rfl, o, dl, hl, pl, ra, h.things, u, i, kvs, h.had k, _, c.ad, _, rfl, ho3, had_dd x3 k, x.ok.wf k, k3.up _ _ nra hra, (fun d hd => row_spots hd), by omega, fun H4 r s4 n4 ha => ?_⟩
          have x4 := x3.same s4
          refine ⟨c, _, k, _, r, rfl, x4, hk, by show h.all.length < 100; omega, ha, x3.fresh n4, x.ok.put hk (by omega) (fun d hd => row_spots hd) (h.things + 1) (.inr rfl), fun H5 c' e1 e2 e3 kp x5 => ?_⟩
          refine ⟨_, rfl, by show 2 ≤ sizeLine; decide, finish x res e1 e3 rfl e2 (fun b v nb e => kp b v nb (s4 _ _ (k3 b v nb (s2 _ _ (s1 _ _ e))))) x5 rfl⟩
end
end Ho
end

section
set_option Elab.async false
set_option maxRecDepth 100000
set_option maxHeartbeats 4000000
/-! move -/
namespace Ho
open PySem PySem.W PyProof.Rows L2
section
variable {P : Program} {w : World} {K : PySem.W.Frag} {mg : Str → Option Value} {base : Heap} {A : Ad} {D : Fd}
def sp_move (A : Ad) : Sp := fun vs H Q _ => ∃ (c : Cells) (h : Sq36.House) (k y u i : Nat), vs = [.ref c.hs, .int (k : Int), .int (y : Int), .int (u : Int), .int (i : Int)] ∧ HouseAt A c H h ∧ Res A c h H (h.step (.move k y u i)) Q
set_option maxHeartbeats 8000000 in
theorem ok_move (T : Txt K mg A D) : FnOk P w K mg base CX0 7 A.f_move D.d_move ["house", "desk", "thing", "under", "i"] (sp_move A) := by
  refine T.f_move.ok sc_move (fun vs H Q E h => ?_) (fun cdv ar outer s H vs Q E hr h => have hu := hu_of hr; ⟨_, (pss_cons (ps_if (pt_not (pt_val (pe_call (ok_has_desk T) (by exact hr.mono (by decide)) (by rfl) T.m_has_desk T.f_has_desk.kp T.b_has_desk .nil pass0 (pa_cons (pv 0) (pa_cons (pv 1) pa_nil)))))
      (pss_one (ps_ret (pe_lst (pa_cons (pe_glob (v := .int (-2)) (by rfl) (Classical.choose_spec T.g_NO_DESK) ⟨_, rfl⟩) pa_nil))))
      pss_nil)
    (pss_cons (ps_set (i := 5) sc_move.nd rfl (Or.inl rfl) (pe_call (ok_outline_of T) (by exact hr.mono (by decide)) (by rfl) T.m_outline_of T.f_outline_of.kp T.b_outline_of .nil pass0 (pa_cons (pv 0) (pa_cons (pv 1) pa_nil))))
    (pss_cons (ps_if (PW.pt (pw_or (pt_not (pt_val (pe_call (ok_can_move T) (by exact hr.mono (by decide)) (by rfl) T.m_can_move T.f_can_move.kp T.b_can_move .nil pass0 (pa_cons (pe_fld (pv 5) (by rfl)) (pa_cons (pv 2) pa_nil))))) (pw_or1 (pt_not (pt_val (pe_call (ok_is_there T) (by exact hr.mono (by decide)) (by rfl) T.m_is_there T.f_is_there.kp T.b_is_there .nil pass0 (pa_cons (pe_fld (pv 5) (by rfl)) (pa_cons (pv 3) pa_nil))))))))
      (pss_one (ps_ret (pe_lst (pa_cons (pe_glob (v := .int (-3)) (by rfl) (Classical.choose_spec T.g_NOT_THERE) ⟨_, rfl⟩) pa_nil))))
      pss_nil)
    (pss_cons (ps_if (pt_cmpR op_in_seq (pv 2) (pe_call (ok_line_up T) (by exact hr.mono (by decide)) (by rfl) T.m_line_up T.f_line_up.kp T.b_line_up .nil pass0 (pa_cons (pe_fld (pv 5) (by rfl)) (pa_cons (pv 3) pa_nil))) (by rfl))
      (pss_one (ps_ret (pe_lst (pa_cons (pe_glob (v := .int (-6)) (by rfl) (Classical.choose_spec T.g_WITHIN) ⟨_, rfl⟩) pa_nil))))
      pss_nil)
    (pss_cons (ps_setLc (i := 6) (own := [("put", 7)]) (g := gName 7)  (by rfl) sc_move.nd rfl rfl (sw_true rfl rfl rfl (by decide +kernel)) (pi_list (pe_call (ok_row_of T) (by exact hr.mono (by decide)) (by rfl) T.m_row_of T.f_row_of.kp T.b_row_of .nil pass0 (pa_cons (pv 5) (pa_cons (pv 3) pa_nil)))) (blkOk_by (own := [("put", 7)]) (N := N_move) (sc := defScope s_move) (by decide +kernel)) (fun _ _ _ _ _ => pg_name (i := 7) sc_move.nd rfl (Or.inl rfl)) (fun _ _ _ _ _ => pts_one (by exact (pt_cmpR op_ne (pe_fldK (K := K) (by rfl) (pe_fldK (K := K) (by rfl) (pv 7) (by rfl)) (by rfl)) (pv 2) (nomark _)))) (fun _ _ _ _ _ => (by exact (pv 7))))
    (pss_cons (ps_if (pt_cmpR op_gt (pv 4) (pe_callB call_len_seq (by rfl) T.n_len PySem.boot_len (pa_cons (pv 6) pa_nil)) (nomark _))
      (pss_one (ps_ret (pe_lst (pa_cons (pe_glob (v := .int (-1)) (by rfl) (Classical.choose_spec T.g_WRONG) ⟨_, rfl⟩) pa_nil))))
      pss_nil)
    (pss_cons (ps_if (pt_val (pe_call (ok_is_full T) (by exact hr.mono (by decide)) (by rfl) T.m_is_full T.f_is_full.kp T.b_is_full .nil pass0 (pa_cons (pv 0) pa_nil)))
      (pss_one (ps_ret (pe_lst (pa_cons (pe_glob (v := .int (-5)) (by rfl) (Classical.choose_spec T.g_FULL) ⟨_, rfl⟩) pa_nil))))
      pss_nil)
    (pss_one (ps_ret (pe_lst (pa_cons (pe_call (ok_do_deed T) (by exact hr.mono (by decide)) (by rfl) T.m_do_deed T.f_do_deed.kp T.b_do_deed .nil pass0 (pa_cons (pv 0) (pa_cons (pv 1) (pa_cons (pe_call (ok_put_behind T) (by exact hr.mono (by decide)) (by rfl) T.m_put_behind T.f_put_behind.kp T.b_put_behind .nil pass0 (pa_cons (pv 5) (pa_cons (pv 2) (pa_cons (pv 3) (pa_cons (pv 6) (pa_cons (pv 4) pa_nil)))))) pa_nil)))) pa_nil))))))))))), ?_⟩)
  · obtain ⟨c, h, k, y, u, i, rfl, _⟩ := h; rfl
  · obtain ⟨c, h, k, y, u, i, rfl, x, res⟩ := h
    have st : h.step (.move k y u i) = h.at_ k y fun l t => if y < 2 ∨ Sq28.there t u = false then (h, Sq36.says (-3)) else if (Sq28.above t u).contains y = true then (h, Sq36.says (-6)) else
      if ((Sq36.row l t u).filter fun d => d.thing != y).length < i then (h, Sq36.says (-1)) else h.try_ k (.put y u (Sq36.spotIn l u ((Sq36.row l t u).filter fun d => d.thing != y) i).1 (Sq36.spotIn l u ((Sq36.row l t u).filter fun d => d.thing != y) i).2) fun v => (v, Sq36.says h.all.length) := rfl
    refine ⟨_, rfl, _, rfl, c, h, k, rfl, x, _, rfl, ?_⟩
    by_cases hk : k < h.hands
    case neg =>
      rw [decide_eq_false hk]
      exact iteT (refuse x (Same.refl _) res (by rw [st, at_no hk]))
    rw [decide_eq_true hk]
    refine iteF ⟨_, rfl, _, rfl, c, h, k, rfl, x, hk, fun H1 o dl hl pl kvs s1 no nd nh np ho => ?_⟩
    have x1 := x.same s1
    refine ⟨_, rfl, ho.ob.places T ⟨_, rfl, pl, y, c.ad, kvs, _, rfl, ho.tr.pl, _, rfl, ?_⟩⟩
    cases ht : Sq28.there (Sq36.treeOf (h.had k)) y with
    | false =>
      rw [Bool.and_false]
      exact iteT (iteT (refuse x1 s1 res (by rw [st, at_not hk ht])))
    | true =>
      rw [at_yes hk ht] at st
      by_cases h2 : 2 ≤ y
      case neg =>
        rw [decide_eq_false h2]
        refine iteT (iteT (refuse x1 s1 res ?_))
        rw [st]
        exact if_pos (.inl (by omega))
      rw [decide_eq_true h2]
      refine iteF ⟨_, rfl, ho.ob.places T ⟨_, rfl, pl, u, c.ad, kvs, _, rfl, ho.tr.pl, _, rfl, ?_⟩⟩
      cases hu' : Sq28.there (Sq36.treeOf (h.had k)) u with
      | false =>
        refine iteT (refuse x1 s1 res ?_)
        rw [st]
        exact if_pos (.inr hu')
      | true =>
        have st1 := st.trans (if_neg (fun z => z.elim (fun q => by omega) fun q => by
          have q' : Sq28.there (Sq36.treeOf (h.had k)) u = false := q
          rw [hu'] at q'; cases q'))
        refine iteF ⟨_, rfl, _, rfl, ho.ob.places T ⟨_, rfl, pl, u, c.ad, _, kvs, _, rfl, ho.tr, fun H2 q s2 n2 hq => ⟨q, _, rfl, .inl (.of hq), rfl, nums_flat _, _, rfl, ?_⟩⟩⟩
        have x2 := x1.same s2
        rw [if_neg Bool.false_ne_true, inV_nums]
        cases hc : (Sq28.above (Sq36.treeOf (h.had k)) u).contains y with
        | true =>
          refine iteT (refuse x2 (s1.trans s2) res ?_)
          rw [st1]
          exact if_pos hc
        | false =>
          have st2 := st1.trans (if_neg (by
            show ¬ (Sq28.above (Sq36.treeOf (h.had k)) u).contains y = true
            rw [hc]; exact Bool.false_ne_true))
          have ho2 := ho.same s2
          refine iteF ⟨_, rfl, _, rfl, o, dl, hl, pl, u, kvs, _, c.ad, _, rfl, ho2, (had_dd x2 k), x.ok.wf k, fun H3 ra s3 n3 hra => ⟨ra, rfl, ⟨_, .of hra⟩, fun pa npa => ?_⟩⟩
          obtain ⟨rw', erw⟩ : ∃ r, r = Sq36.row (h.had k) (Sq36.treeOf (h.had k)) u := ⟨_, rfl⟩
          have rl : rw'.length ≤ 100 := by
            rw [erw]
            exact Nat.le_trans (List.length_filter_le _ _) (Nat.le_trans (spots_len (x.ok.wf k).ordered (x.ok.wf k).ids u) (x.ok.wf k).len)
          rw [← erw] at hra
          have x3 := x2.same s3
          refine lc_pick (K := K) (a := ra) (l := rw') (f := rf c.ad) (i := 7) (fun d => d.thing != y) (rf c.ad) npa (.of hra) (by omega) (fun d hd H6 R s6 kR => ?_) (fun d hd _ H6 R s6 kR => ⟨_, rfl, kR H6 (Same.refl _)⟩) fun H6 s6 hp => ?_
          · rw [erw] at hd
            obtain ⟨hm, o', b', hat⟩ := spots_mem (row_spots hd)
            obtain ⟨z, o2, b2, hact⟩ := put_of (isPut_of hat)
            obtain ⟨sw, r, h1⟩ := (had_dd (x3.same s6) k) d hm
            have h1a := h1.act
            rw [hact] at h1a
            refine ⟨_, rfl, h1.ob.act T (obPut.thing T h1a ⟨_, rfl, rfl, _, rfl, ?_⟩)⟩
            rw [dec_int]
            have th : d.thing = z := by unfold Sq36.Deed.thing; rw [hact]
            have e : (!(z == y)) = (d.thing != y) := by rw [th]; rfl
            rw [e]
            exact kR H6 (Same.refl _)
          · have x6 := x3.same s6
            have s06 := s1.trans (s2.trans (s3.trans s6))
            refine ⟨_, rfl, _, rfl, pa, _, rfl, .inl (.of hp), _, _, rfl, rfl, _, rfl, ?_⟩
            rw [List.length_map]
            have erw' : rw' = Sq36.row (h.had k) (h.tree k) u := erw
            rw [← erw'] at st2
            have gi : decide (((rw'.filter fun d => d.thing != y).length : Int) < (i : Int)) = decide ((rw'.filter fun d => d.thing != y).length < i) := dec_lt _ _
            by_cases hi : (rw'.filter fun d => d.thing != y).length < i
            · rw [decide_eq_true hi] at gi
              refine if_true' gi (refuse x6 s06 res ?_)
              rw [st2]
              exact if_pos hi
            · rw [decide_eq_false hi] at gi
              refine if_false' gi ⟨_, rfl, c, h, rfl, x6, _, rfl, ?_⟩
              have st3 := st2.trans (if_neg hi)
              by_cases hf : 100 ≤ h.all.length
              · rw [decide_eq_true hf]
                exact iteT (refuse x6 s06 res (by rw [st3, try_no hf]))
              · rw [decide_eq_false hf]
                rw [st3, try_yes hf] at res
                have sub : ∀ d ∈ rw'.filter (fun d => d.thing != y), d ∈ Sq36.spots (h.had k) u := fun d hd => by
                  have := (List.mem_filter.mp hd).1
                  rw [erw] at this
                  exact row_spots this
                refine iteF ⟨_, rfl, _, rfl, _, rfl, _, rfl, _, rfl, _, rfl, _, rfl, o, dl, hl, pl, pa, y, u, i, kvs, h.had k, _, c.ad, _, rfl, ho2.same (s3.trans s6), had_dd x6 k, x.ok.wf k, hp, sub, by omega, fun H4 r s4 n4 ha => ?_⟩
                have x4 := x6.same s4
                refine ⟨c, h, k, _, r, rfl, x4, hk, by omega, ha, x6.fresh n4, x.ok.put hk (by omega) sub h.things (.inl rfl), fun H5 c' e1 e2 e3 kp x5 => ?_⟩
                refine ⟨by show 1 ≤ sizeLine; decide, finish x res e1 e3 rfl e2 (fun b v nb e => kp b v nb (s4 _ _ (s06 _ _ e))) x5 rfl⟩
end
end Ho
end

section
set_option Elab.async false
set_option maxRecDepth 100000
set_option maxHeartbeats 4000000
/-! back, undo, redo -/
namespace Ho
open PySem PySem.W PyProof.Rows L2
theorem isTk_eq (a : Sq36.Act) : isTaking a = isTk a := by cases a <;> rfl
section
variable {P : Program} {w : World} {K : PySem.W.Frag} {mg : Str → Option Value} {base : Heap} {A : Ad} {D : Fd}
def sp_is_own_change (A : Ad) : Sp := fun vs H Q _ => ∃ (a sw r : Addr) (M : Addr → Prop) (d : Sq36.Deed) (k : Nat), vs = [.ref a, .int (k : Int)] ∧ DeedAt A M H a d sw r ∧ ∀ (H' : Hp), Same H H' → Q (.bl (isOwn k d)) H'
theorem ok_is_own_change (T : Txt K mg A D) : FnOk P w K mg base CX0 2 A.f_is_own_change D.d_is_own_change ["deed", "desk"] (sp_is_own_change A) := by
  refine T.f_is_own_change.ok sc_is_own_change (fun vs H Q E h => ?_) (fun cdv ar outer s H vs Q E hr h => ⟨_, (pss_one (ps_ret (pe_and (pe_cmpR op_eq (pe_fld (pv 0) (by rfl)) (pv 1) (nomark _)) (pe_one (pe_call (ok_is_change T) (by exact hr.mono (by decide)) (by rfl) T.m_is_change T.f_is_change.kp T.b_is_change .nil pass0 (pa_cons (pv 0) pa_nil)))))), ?_⟩)
  · obtain ⟨a, sw, r, M, d, k, rfl, _⟩ := h; rfl
  · obtain ⟨a, sw, r, M, d, k, rfl, h1, q⟩ := h
    unfold isOwn at q
    refine ⟨_, rfl, h1.ob.desk T ⟨_, rfl, rfl, _, rfl, ?_⟩⟩
    rw [dec_int]
    cases c : (d.stamp.hand == k) with
    | false => rw [c] at q; exact iteF (q H (Same.refl _))
    | true =>
      rw [c] at q
      refine iteT ⟨_, rfl, a, sw, r, M, d, rfl, h1, fun H' s' => ?_⟩
      rw [isTk_eq]
      exact q H' s'
def sp_numbers_held (A : Ad) : Sp := fun vs H Q _ => ∃ (c : Cells) (h : Sq36.House) (k : Nat), vs = [.ref c.hs, .int (k : Int)] ∧ HouseAt A c H h ∧ k < h.hands ∧
  ∀ (H' : Hp) (p : Addr), Same H H' → H p = none → H' p = some (.lst (nums ((Sq36.held (h.had k)).map (·.id)))) → Q (.ref p) H'
theorem ok_numbers_held (T : Txt K mg A D) : FnOk P w K mg base CX0 5 A.f_numbers_held D.d_numbers_held ["house", "desk"] (sp_numbers_held A) := by
  refine T.f_numbers_held.ok sc_numbers_held (fun vs H Q E h => ?_) (fun cdv ar outer s H vs Q E hr h => have hu := hu_of hr; ⟨_, (pss_one (ps_ret (pe_lc (own := [("deed", 2)]) (g := gName 2) (tt := tYes) (by rfl) sc_numbers_held.nd (pi_list (pe_call (ok_holding T) (by exact hr.mono (by decide)) (by rfl) T.m_holding T.f_holding.kp T.b_holding .nil pass0 (pa_cons (pe_call (ok_had T) (by exact hr.mono (by decide)) (by rfl) T.m_had T.f_had.kp T.b_had .nil pass0 (pa_cons (pv 0) (pa_cons (pv 1) pa_nil))) pa_nil))) (blkOk_by (own := [("deed", 2)]) (N := N_numbers_held) (sc := defScope s_numbers_held) (by decide +kernel)) (fun _ _ _ _ _ => pg_name (i := 2) sc_numbers_held.nd rfl (Or.inl rfl)) (fun _ _ _ _ _ => pts_nil) (fun _ _ _ _ _ => (by exact (pe_fldK (K := K) (by rfl) (pv 2) (by rfl))))))), ?_⟩)
  · obtain ⟨c, h, k, rfl, _⟩ := h; rfl
  · obtain ⟨c, h, k, rfl, x, hk, q⟩ := h
    refine ⟨_, rfl, _, rfl, c, h, k, rfl, x, hk, fun H1 p1 s1 n1 h1 => ⟨p1, h.had k, c.ad, _, rfl, h1, (had_dd (x.same s1) k), x.ok.wf k, fun H2 p2 s2 n2 h2 => ⟨p2, rfl, ⟨_, .of h2⟩, fun p np => ?_⟩⟩⟩
    have wl := (x.ok.wf k).len
    have hl : (Sq36.held (h.had k)).length ≤ 100 := Nat.le_trans (List.length_filter_le _ _) wl
    refine lc_pick (K := K) (a := p2) (l := Sq36.held (h.had k)) (f := rf c.ad) (i := 2) (fun _ => true) (fun d => V.int (d.id : Int)) np (.of h2) (by omega) (fun d hd H6 R s6 kR => kR H6 (Same.refl _)) (fun d hd _ H6 R s6 kR => ?_) fun H6 s6 hp => q H6 p (s1.trans (s2.trans s6)) ((s1.trans s2).free np) ?_
    · obtain ⟨sw, r, h3⟩ := had_dd (x.same (s1.trans (s2.trans s6))) k d (held_sub hd)
      exact ⟨_, rfl, h3.ob.number T (kR H6 (Same.refl _))⟩
    · rw [hp, filter_yes]
      unfold nums
      rw [List.map_map]
      rfl
def sp_is_too_late (A : Ad) : Sp := fun vs H Q _ => ∃ (c : Cells) (h : Sq36.House) (k i : Nat) (d : Sq36.Deed), vs = [.ref c.hs, .int (k : Int), .int (i : Int)] ∧ HouseAt A c H h ∧ k < h.hands ∧ h.all[i]? = some d ∧ Q (.bl (!h.inTime k d)) H
theorem ok_is_too_late (T : Txt K mg A D) : FnOk P w K mg base CX0 2 A.f_is_too_late D.d_is_too_late ["house", "desk", "deed"] (sp_is_too_late A) := by
  refine T.f_is_too_late.ok sc_is_too_late (fun vs H Q E h => ?_) (fun cdv ar outer s H vs Q E hr h => ⟨_, (pss_one (ps_ret (pe_not (pe_call (ok_is_in_reach T) (by exact hr.mono (by decide)) (by rfl) T.m_is_in_reach T.f_is_in_reach.kp T.b_is_in_reach .nil pass0 (pa_cons (pe_call (ok_next_count T) (by exact hr.mono (by decide)) (by rfl) T.m_next_count T.f_next_count.kp T.b_next_count .nil pass0 (pa_cons (pv 0) (pa_cons (pv 1) pa_nil))) (pa_cons (pe_ix ix_list (pe_fld (pv 0) (by rfl)) (pv 2) (by exact fun _ _ => rfl)) pa_nil)))))), ?_⟩)
  · obtain ⟨c, h, k, i, d, rfl, _⟩ := h; rfl
  · obtain ⟨c, h, k, i, d, rfl, x, hk, hd, q⟩ := h
    obtain ⟨sw, r, h1⟩ := x.dd d (List.mem_of_getElem? hd)
    have hg : (rfs c.ad h.all)[i]? = some (rf c.ad d) := by unfold rfs; rw [List.getElem?_map, hd]; rfl
    refine ⟨_, rfl, _, rfl, c, h, k, rfl, x, hk, _, rfl, x.ob.deeds T ⟨_, rfl, c.dl, _, _, _, rfl, rfl, .of x.dl, atI_nat hg, _, _, sw, r, _, d, rfl, h1, _, rfl, ?_⟩⟩
    have e : decide (((h.desk k).clock : Int) + 1 ≤ (d.stamp.count : Int) + 20) = h.inTime k d := by
      unfold Sq36.House.inTime
      exact dec_le ((h.desk k).clock + 1) (d.stamp.count + 20)
    rw [e]
    exact q
def sp_back (A : Ad) : Sp := fun vs H Q _ => ∃ (c : Cells) (h : Sq36.House) (k i : Nat), vs = [.ref c.hs, .int (k : Int), .int (i : Int)] ∧ HouseAt A c H h ∧ Res A c h H (h.step (.back k i)) Q
set_option maxHeartbeats 8000000 in
theorem ok_back (T : Txt K mg A D) : FnOk P w K mg base CX0 6 A.f_back D.d_back ["house", "desk", "deed"] (sp_back A) := by
  refine T.f_back.ok sc_back (fun vs H Q E h => ?_) (fun cdv ar outer s H vs Q E hr h => have hu := hu_of hr; ⟨_, (pss_cons (ps_if (pt_not (pt_val (pe_call (ok_has_desk T) (by exact hr.mono (by decide)) (by rfl) T.m_has_desk T.f_has_desk.kp T.b_has_desk .nil pass0 (pa_cons (pv 0) (pa_cons (pv 1) pa_nil)))))
      (pss_one (ps_ret (pe_lst (pa_cons (pe_glob (v := .int (-2)) (by rfl) (Classical.choose_spec T.g_NO_DESK) ⟨_, rfl⟩) pa_nil))))
      pss_nil)
    (pss_cons (ps_if (PW.pt (pw_or (pt_cmpR op_ge (pv 2) (pe_callB call_len_seq (by rfl) T.n_len PySem.boot_len (pa_cons (pe_fld (pv 0) (by rfl)) pa_nil)) (nomark _)) (pw_or1 (pt_not (pt_val (pe_call (ok_is_own_change T) (by exact hr.mono (by decide)) (by rfl) T.m_is_own_change T.f_is_own_change.kp T.b_is_own_change .nil pass0 (pa_cons (pe_ix ix_list (pe_fld (pv 0) (by rfl)) (pv 2) (by exact fun _ _ => rfl)) (pa_cons (pv 1) pa_nil))))))))
      (pss_one (ps_ret (pe_lst (pa_cons (pe_glob (v := .int (-3)) (by rfl) (Classical.choose_spec T.g_NOT_THERE) ⟨_, rfl⟩) pa_nil))))
      pss_nil)
    (pss_cons (ps_if (PW.pt (pw_or (pt_cmpR op_notIn_seq (pv 2) (pe_call (ok_numbers_held T) (by exact hr.mono (by decide)) (by rfl) T.m_numbers_held T.f_numbers_held.kp T.b_numbers_held .nil pass0 (pa_cons (pv 0) (pa_cons (pv 1) pa_nil))) (by rfl)) (pw_or1 (pt_val (pe_call (ok_is_too_late T) (by exact hr.mono (by decide)) (by rfl) T.m_is_too_late T.f_is_too_late.kp T.b_is_too_late .nil pass0 (pa_cons (pv 0) (pa_cons (pv 1) (pa_cons (pv 2) pa_nil))))))))
      (pss_one (ps_ret (pe_lst (pa_cons (pe_glob (v := .int (-4)) (by rfl) (Classical.choose_spec T.g_TOO_LATE) ⟨_, rfl⟩) pa_nil))))
      pss_nil)
    (pss_cons (ps_if (pt_val (pe_call (ok_is_full T) (by exact hr.mono (by decide)) (by rfl) T.m_is_full T.f_is_full.kp T.b_is_full .nil pass0 (pa_cons (pv 0) pa_nil)))
      (pss_one (ps_ret (pe_lst (pa_cons (pe_glob (v := .int (-5)) (by rfl) (Classical.choose_spec T.g_FULL) ⟨_, rfl⟩) pa_nil))))
      pss_nil)
    (pss_one (ps_ret (pe_lst (pa_cons (pe_call (ok_do_deed T) (by exact hr.mono (by decide)) (by rfl) T.m_do_deed T.f_do_deed.kp T.b_do_deed .nil pass0 (pa_cons (pv 0) (pa_cons (pv 1) (pa_cons (pe_make T.mk_TakingBack (ok_TakingBack_init T) (by exact hr.mono (by decide)) (by rfl) T.c_TakingBack T.b_TakingBack_init .nil pass0 (pa_cons (pv 2) pa_nil)) pa_nil)))) pa_nil)))))))), ?_⟩)
  · obtain ⟨c, h, k, i, rfl, _⟩ := h; rfl
  · obtain ⟨c, h, k, i, rfl, x, res⟩ := h
    have st : h.step (.back k i) = if h.hands ≤ k then (h, Sq36.says (-2)) else match (h.own k).find? fun d => d.id == i with
      | none => (h, Sq36.says (-3))
      | some d => if Sq36.holds (h.had k) d = false ∨ h.inTime k d = false then (h, Sq36.says (-4)) else h.try_ k (.back i) fun u => (u, Sq36.says h.all.length) := rfl
    refine ⟨_, rfl, _, rfl, c, h, k, rfl, x, _, rfl, ?_⟩
    by_cases hk : k < h.hands
    case neg =>
      rw [decide_eq_false hk]
      exact iteT (refuse x (Same.refl _) res (by rw [st, if_pos (by omega)]))
    rw [decide_eq_true hk]
    rw [if_neg (by omega), x.ok.own_find hk i] at st
    refine iteF ⟨_, rfl, _, rfl, x.ob.deeds T ⟨c.dl, _, rfl, .inl (.of x.dl), _, _, rfl, rfl, _, rfl, ?_⟩⟩
    rw [rfs_len]
    have gi : decide ((h.all.length : Int) ≤ (i : Int)) = decide (h.all.length ≤ i) := dec_le _ _
    cases hd : h.all[i]? with
    | none =>
      have : h.all.length ≤ i := List.getElem?_eq_none_iff.mp hd
      rw [decide_eq_true this] at gi
      rw [hd] at st
      exact if_true' gi (iteT (refuse x (Same.refl _) res st))
    | some d =>
      have hlt := (List.getElem?_eq_some_iff.mp hd).1
      have gi' : decide ((h.all.length : Int) ≤ (i : Int)) = false := by rw [gi]; exact decide_eq_false (by omega)
      rw [hd] at st
      simp only at st
      have hm := List.mem_of_getElem? hd
      obtain ⟨sw, r, h1⟩ := x.dd d hm
      have hg : (rfs c.ad h.all)[i]? = some (rf c.ad d) := by unfold rfs; rw [List.getElem?_map, hd]; rfl
      refine if_false' gi' ⟨_, rfl, x.ob.deeds T ⟨_, rfl, c.dl, _, _, _, rfl, rfl, .of x.dl, atI_nat hg, _, rfl, _, sw, r, _, d, k, rfl, h1, fun H1 s1 => ⟨_, rfl, ?_⟩⟩⟩
      have x1 := x.same s1
      cases ho : isOwn k d with
      | false =>
        rw [ho, if_neg Bool.false_ne_true] at st
        exact iteT (refuse x1 s1 res st)
      | true =>
        rw [ho, if_pos rfl] at st
        simp only at st
        have hid := x.ok.deeds.id i d hd
        have hown : d ∈ h.own k := by
          have := x.ok.own_find hk i
          rw [hd] at this
          simp only at this
          rw [ho, if_pos rfl] at this
          exact List.mem_of_find?_eq_some this
        have hhad : d ∈ h.had k := by rw [own_eq] at hown; exact (List.mem_filter.mp hown).1
        refine iteF ⟨_, rfl, _, rfl, _, rfl, c, h, k, rfl, x1, hk, fun H2 p2 s2 n2 h2 => ⟨p2, _, rfl, .inl (.of h2), rfl, nums_flat _, _, rfl, ?_⟩⟩
        have x2 := x1.same s2
        have s02 := s1.trans s2
        rw [if_pos rfl, inV_nums, ← hid, held_ids (fun a b ha hb => (x.ok.wf k).uniq ha hb) hhad]
        cases hh : Sq36.holds (h.had k) d with
        | false => exact iteT (iteT (refuse x2 s02 res (by rw [st]; exact if_pos (.inl hh))))
        | true =>
          refine iteF ⟨_, rfl, _, rfl, _, rfl, c, h, k, d.id, d, rfl, x2, hk, by rw [hid]; exact hd, _, rfl, ?_⟩
          cases ht : h.inTime k d with
          | false => exact iteT (refuse x2 s02 res (by rw [st]; exact if_pos (.inr ht)))
          | true =>
            have st2 := st.trans (if_neg (fun z => z.elim (fun q => by rw [hh] at q; cases q) fun q => by rw [ht] at q; cases q))
            refine iteF ⟨_, rfl, c, h, rfl, x2, _, rfl, ?_⟩
            by_cases hf : 100 ≤ h.all.length
            · rw [decide_eq_true hf]
              exact iteT (refuse x2 s02 res (by rw [st2, try_no hf]))
            · rw [decide_eq_false hf]
              rw [st2, try_yes hf] at res
              refine iteF ⟨_, rfl, _, rfl, _, rfl, mk_TakingBack fun ra H3 nra s3 h3 => ?_⟩
              have x3 := x2.same s3
              refine ⟨c, h, k, .back i, ra, rfl, x3, hk, by omega, (by rw [← hid]; exact h3), x2.fresh nra, x.ok.taking hk (by omega) hown (.inl (by rw [hid])), fun H5 c' e1 e2 e3 kp x5 => ⟨by show 1 ≤ sizeLine; decide, finish x res e1 e3 rfl e2 (fun b v nb e => kp b v nb (s3 _ _ (s02 _ _ e))) x5 rfl⟩⟩
/-! ### undo -/
def sp_undo (A : Ad) : Sp := fun vs H Q _ => ∃ (c : Cells) (h : Sq36.House) (k : Nat), vs = [.ref c.hs, .int (k : Int)] ∧ HouseAt A c H h ∧ Res A c h H (h.step (.undo k)) Q
theorem atI_last' {α : Type} {xs : List α} {x : α} (h : xs.getLast? = some x) : atI xs (-1) = some x := by
  unfold atI ixN
  have pos : 0 < xs.length := by
    cases xs with
    | nil => cases h
    | cons a l => simp
  rw [if_neg (by decide), if_pos (by omega)]
  rw [List.getLast?_eq_getElem?] at h
  have e : (-1 + (xs.length : Int)).toNat = xs.length - 1 := by omega
  rw [e]
  exact h
theorem nums_last {l : List Sq36.Deed} {d : Sq36.Deed} (h : l.getLast? = some d) : (l.map fun e => V.int (e.id : Int)).getLast? = some (.int (d.id : Int)) := by
  rw [List.getLast?_map, h]; rfl
set_option maxHeartbeats 8000000 in
theorem ok_undo (T : Txt K mg A D) : FnOk P w K mg base CX0 5 A.f_undo D.d_undo ["house", "desk"] (sp_undo A) := by
  refine T.f_undo.ok sc_undo (fun vs H Q E h => ?_) (fun cdv ar outer s H vs Q E hr h => have hu := hu_of hr; ⟨_, (pss_cons (ps_if (pt_not (pt_val (pe_call (ok_has_desk T) (by exact hr.mono (by decide)) (by rfl) T.m_has_desk T.f_has_desk.kp T.b_has_desk .nil pass0 (pa_cons (pv 0) (pa_cons (pv 1) pa_nil)))))
      (pss_one (ps_ret (pe_lst (pa_cons (pe_glob (v := .int (-2)) (by rfl) (Classical.choose_spec T.g_NO_DESK) ⟨_, rfl⟩) pa_nil))))
      pss_nil)
    (pss_cons (ps_setLc (i := 2) (own := [("deed", 3)]) (g := gName 3)  (by rfl) sc_undo.nd rfl rfl (sw_true rfl rfl rfl (by decide +kernel)) (pi_list (pe_call (ok_holding T) (by exact hr.mono (by decide)) (by rfl) T.m_holding T.f_holding.kp T.b_holding .nil pass0 (pa_cons (pe_call (ok_had T) (by exact hr.mono (by decide)) (by rfl) T.m_had T.f_had.kp T.b_had .nil pass0 (pa_cons (pv 0) (pa_cons (pv 1) pa_nil))) pa_nil))) (blkOk_by (own := [("deed", 3)]) (N := N_undo) (sc := defScope s_undo) (by decide +kernel)) (fun _ _ _ _ _ => pg_name (i := 3) sc_undo.nd rfl (Or.inl rfl)) (fun _ _ _ _ _ => pts_one (by exact (pt_val (pe_call (ok_is_own_change T) (by exact hr.mono (by decide)) (by rfl) T.m_is_own_change T.f_is_own_change.kp T.b_is_own_change .nil pass0 (pa_cons (pv 3) (pa_cons (pv 1) pa_nil)))))) (fun _ _ _ _ _ => (by exact (pe_fldK (K := K) (by rfl) (pv 3) (by rfl)))))
    (pss_cons (ps_if (pt_cmpR op_eq (pe_callB call_len_seq (by rfl) T.n_len PySem.boot_len (pa_cons (pv 2) pa_nil)) pe_int (nomark _))
      (pss_one (ps_ret (pe_lst (pa_cons (pe_glob (v := .int (-3)) (by rfl) (Classical.choose_spec T.g_NOT_THERE) ⟨_, rfl⟩) pa_nil))))
      pss_nil)
    (pss_cons (ps_if (pt_val (pe_call (ok_is_too_late T) (by exact hr.mono (by decide)) (by rfl) T.m_is_too_late T.f_is_too_late.kp T.b_is_too_late .nil pass0 (pa_cons (pv 0) (pa_cons (pv 1) (pa_cons (pe_ix ix_list (pv 2) (pe_un un_neg pe_int) (by exact fun _ _ => rfl)) pa_nil)))))
      (pss_one (ps_ret (pe_lst (pa_cons (pe_glob (v := .int (-4)) (by rfl) (Classical.choose_spec T.g_TOO_LATE) ⟨_, rfl⟩) pa_nil))))
      pss_nil)
    (pss_cons (ps_if (pt_val (pe_call (ok_is_full T) (by exact hr.mono (by decide)) (by rfl) T.m_is_full T.f_is_full.kp T.b_is_full .nil pass0 (pa_cons (pv 0) pa_nil)))
      (pss_one (ps_ret (pe_lst (pa_cons (pe_glob (v := .int (-5)) (by rfl) (Classical.choose_spec T.g_FULL) ⟨_, rfl⟩) pa_nil))))
      pss_nil)
    (pss_cons (ps_expr (pe_call (ok_do_deed T) (by exact hr.mono (by decide)) (by rfl) T.m_do_deed T.f_do_deed.kp T.b_do_deed .nil pass0 (pa_cons (pv 0) (pa_cons (pv 1) (pa_cons (pe_make T.mk_TakingBack (ok_TakingBack_init T) (by exact hr.mono (by decide)) (by rfl) T.c_TakingBack T.b_TakingBack_init .nil pass0 (pa_cons (pe_ix ix_list (pv 2) (pe_un un_neg pe_int) (by exact fun _ _ => rfl)) pa_nil)) pa_nil)))))
    (pss_one (ps_ret (pe_lst (pa_cons (pe_ix ix_list (pv 2) (pe_un un_neg pe_int) (by exact fun _ _ => rfl)) pa_nil)))))))))), ?_⟩)
  · obtain ⟨c, h, k, rfl, _⟩ := h; rfl
  · obtain ⟨c, h, k, rfl, x, res⟩ := h
    have st : h.step (.undo k) = if h.hands ≤ k then (h, Sq36.says (-2)) else match h.lastOwn k with
      | none => (h, Sq36.says (-3))
      | some d => if h.inTime k d = false then (h, Sq36.says (-4)) else h.try_ k (.back d.id) fun u => (u, Sq36.says d.id) := rfl
    refine ⟨_, rfl, _, rfl, c, h, k, rfl, x, _, rfl, ?_⟩
    by_cases hk : k < h.hands
    case neg =>
      rw [decide_eq_false hk]
      exact iteT (refuse x (Same.refl _) res (by rw [st, if_pos (by omega)]))
    rw [decide_eq_true hk]
    rw [if_neg (by omega), lastOwn_eq] at st
    refine iteF ⟨_, rfl, _, rfl, c, h, k, rfl, x, hk, fun H1 p1 s1 n1 h1 => ⟨p1, h.had k, c.ad, _, rfl, h1, (had_dd (x.same s1) k), x.ok.wf k, fun H2 p2 s2 n2 h2 => ⟨p2, rfl, ⟨_, .of h2⟩, fun p np => ?_⟩⟩⟩
    have wl := (x.ok.wf k).len
    have hl : (Sq36.held (h.had k)).length ≤ 100 := Nat.le_trans (List.length_filter_le _ _) wl
    refine lc_pick (K := K) (a := p2) (l := Sq36.held (h.had k)) (f := rf c.ad) (i := 3) (isOwn k) (fun d => V.int (d.id : Int)) np (.of h2) (by omega) (fun d hd H6 R s6 kR => ?_) (fun d hd _ H6 R s6 kR => ?_) fun H6 s6 hp => ?_
    · obtain ⟨sw, r, h3⟩ := had_dd (x.same (s1.trans (s2.trans s6))) k d (held_sub hd)
      exact ⟨_, rfl, _, rfl, _, sw, r, _, d, k, rfl, h3, fun H' s' => ⟨_, rfl, kR H' s'⟩⟩
    · obtain ⟨sw, r, h3⟩ := had_dd (x.same (s1.trans (s2.trans s6))) k d (held_sub hd)
      exact ⟨_, rfl, h3.ob.number T (kR H6 (Same.refl _))⟩
    · have s06 := s1.trans (s2.trans s6)
      have x6 := x.same s06
      refine ⟨_, rfl, p, _, rfl, .inl (.of hp), rfl, _, rfl, ?_⟩
      rw [List.length_map]
      have gl : decide (V.int (((Sq36.held (h.had k)).filter (isOwn k)).length : Int) = V.int 0) = (((Sq36.held (h.had k)).filter (isOwn k)).length == 0) := dec_int _ 0
      cases hlast : ((Sq36.held (h.had k)).filter (isOwn k)).getLast? with
      | none =>
        have e0 : (Sq36.held (h.had k)).filter (isOwn k) = [] := List.getLast?_eq_none_iff.mp hlast
        rw [hlast] at st
        rw [e0] at gl ⊢
        exact if_true' gl (refuse x6 s06 res st)
      | some d =>
        rw [hlast] at st
        simp only at st
        have hdm : d ∈ (Sq36.held (h.had k)).filter (isOwn k) := List.mem_of_getLast? hlast
        have hne : ¬ ((Sq36.held (h.had k)).filter (isOwn k)).length = 0 := fun z => by
          rw [List.length_eq_zero_iff] at z; rw [z] at hdm; cases hdm
        rw [show (((Sq36.held (h.had k)).filter (isOwn k)).length == 0) = false from beq_eq_false_iff_ne.mpr hne] at gl
        have hhad : d ∈ h.had k := held_sub (List.mem_filter.mp hdm).1
        have hown : d ∈ h.own k := by rw [own_eq]; exact List.mem_filter.mpr ⟨hhad, (List.mem_filter.mp hdm).2⟩
        have hall : h.all[d.id]? = some d := by
          obtain ⟨j, hj⟩ := List.getElem?_of_mem (x.ok.mem_had.mp hhad).1
          rw [x.ok.deeds.id j d hj]; exact hj
        have lst := atI_last' (nums_last hlast)
        refine if_false' gl ⟨_, rfl, _, rfl, _, rfl, _, rfl, p, _, _, _, rfl, rfl, .of hp, lst, c, h, k, d.id, d, rfl, x6, hk, hall, _, rfl, ?_⟩
        cases ht : h.inTime k d with
        | false => exact iteT (refuse x6 s06 res (by rw [st]; exact if_pos ht))
        | true =>
          have st2 := st.trans (if_neg (fun q => by rw [ht] at q; cases q))
          refine iteF ⟨_, rfl, c, h, rfl, x6, _, rfl, ?_⟩
          by_cases hf : 100 ≤ h.all.length
          · rw [decide_eq_true hf]
            exact iteT (refuse x6 s06 res (by rw [st2, try_no hf]))
          · rw [decide_eq_false hf]
            rw [st2, try_yes hf] at res
            refine iteF ⟨_, rfl, _, rfl, _, rfl, _, rfl, p, _, _, _, rfl, rfl, .of hp, lst, mk_TakingBack fun ra H3 nra s3 h3 => ?_⟩
            have x3 := x6.same s3
            refine ⟨c, h, k, .back d.id, ra, rfl, x3, hk, by omega, h3, x6.fresh nra, x.ok.taking hk (by omega) hown (.inl rfl), fun H5 c' e1 e2 e3 kp x5 => ?_⟩
            have npM : ¬ c.M h.hands p := x.fresh ((s1.trans s2).free np)
            refine ⟨_, rfl, _, rfl, p, _, _, _, rfl, rfl, .of (kp.up _ _ npM (s3 _ _ hp)), lst, by show 1 ≤ sizeLine; decide, finish x res e1 e3 rfl e2 (fun b v nb e => kp b v nb (s3 _ _ (s06 _ _ e))) x5 rfl⟩
end
end Ho
end

section
set_option Elab.async false
set_option maxRecDepth 100000
set_option maxHeartbeats 4000000
/-! redo -/
namespace Ho
open PySem PySem.W PyProof.Rows L2
section
variable {P : Program} {w : World} {K : PySem.W.Frag} {mg : Str → Option Value} {base : Heap} {A : Ad} {D : Fd}
def optV : Option Nat → V
  | none => .non
  | some i => .int (i : Int)
def sp_taken_last (A : Ad) : Sp := fun vs H Q _ => ∃ (c : Cells) (h : Sq36.House) (k : Nat), vs = [.ref c.hs, .int (k : Int)] ∧ HouseAt A c H h ∧ k < h.hands ∧ ∀ (H' : Hp), Same H H' → Q (optV ((h.nextOwn k).map (·.id))) H'
theorem scan_cons (ids : List Nat) (e : Sq36.Deed) (r : List Sq36.Deed) : scan ids (e :: r) = if isTk e.act = false then none else if (e.isBack && !ids.contains (target e)) = true then some (target e) else scan ids r := rfl
theorem isBackA_act {a : Sq36.Act} (h : isBackA a = true) : ∃ i, a = .back i := by
  cases a <;> first | exact ⟨_, rfl⟩ | cases h
set_option maxHeartbeats 8000000 in
theorem ok_taken_last (T : Txt K mg A D) : FnOk P w K mg base CX0 6 A.f_taken_last D.d_taken_last ["house", "desk"] (sp_taken_last A) := by
  refine T.f_taken_last.ok sc_taken_last (fun vs H Q E h => ?_) (fun cdv ar outer s H vs Q E hr h => have hu := hu_of hr; ⟨_, (pss_cons (ps_set (i := 2) sc_taken_last.nd rfl (Or.inl rfl) (pe_call (ok_numbers_held T) (by exact hr.mono (by decide)) (by rfl) T.m_numbers_held T.f_numbers_held.kp T.b_numbers_held .nil pass0 (pa_cons (pv 0) (pa_cons (pv 1) pa_nil))))
    (pss_cons (ps_setLc (i := 3) (own := [("deed", 4)]) (g := gName 4)  (by rfl) sc_taken_last.nd rfl rfl (sw_true rfl rfl rfl (by decide +kernel)) (pi_list (pe_call (ok_had T) (by exact hr.mono (by decide)) (by rfl) T.m_had T.f_had.kp T.b_had .nil pass0 (pa_cons (pv 0) (pa_cons (pv 1) pa_nil)))) (blkOk_by (own := [("deed", 4)]) (N := N_taken_last) (sc := defScope s_taken_last) (by decide +kernel)) (fun _ _ _ _ _ => pg_name (i := 4) sc_taken_last.nd rfl (Or.inl rfl)) (fun _ _ _ _ _ => pts_one (by exact (pt_cmpR op_eq (pe_fldK (K := K) (by rfl) (pv 4) (by rfl)) (pv 1) (nomark _)))) (fun _ _ _ _ _ => (by exact (pv 4))))
    (pss_cons (ps_for PassesOwn.never rfl (pi_reversed (by rfl) T.n_reversed (pa_cons (pv 3) pa_nil)) (pg_name (i := 4) sc_taken_last.nd rfl (Or.inl rfl))
      (pss_cons (ps_if (pt_val (pe_call (ok_is_change T) (by exact hr.mono (by decide)) (by rfl) T.m_is_change T.f_is_change.kp T.b_is_change .nil pass0 (pa_cons (pv 4) pa_nil)))
      (pss_one (ps_ret pe_non))
      pss_nil)
    (pss_one (ps_if (PW.pt (pw_and (pt_val (pe_callB call_isi (by rfl) T.n_isinstance (by decide +kernel) (pa_cons (pe_fld (pv 4) (by rfl)) (pa_cons (pe_glob (v := .ref A.TakingBack) (by rfl) T.c_TakingBack rfl) pa_nil)))) (pw_and1 (pt_cmpR op_notIn_seq (pe_fld (pe_fld (pv 4) (by rfl)) (by rfl)) (pv 2) (by rfl)))))
      (pss_one (ps_ret (pe_fld (pe_fld (pv 4) (by rfl)) (by rfl))))
      pss_nil))))
    (pss_one (ps_ret pe_non))))), ?_⟩)
  · obtain ⟨c, h, k, rfl, _⟩ := h; rfl
  · obtain ⟨c, h, k, rfl, x, hk, q⟩ := h
    rw [x.ok.next_scan hk] at q
    refine ⟨_, rfl, _, rfl, c, h, k, rfl, x, hk, fun H1 p1 s1 n1 h1 => ?_⟩
    have x1 := x.same s1
    refine ⟨_, rfl, _, rfl, c, h, k, rfl, x1, hk, fun H2 p2 s2 n2 h2 => ⟨p2, rfl, ⟨_, .of h2⟩, fun p np => ?_⟩⟩
    have wl := (x.ok.wf k).len
    refine lc_pick (K := K) (a := p2) (l := h.had k) (f := rf c.ad) (i := 4) (fun d => d.stamp.hand == k) (rf c.ad) np (.of h2) (by omega) (fun d hd H6 R s6 kR => ?_) (fun d hd _ H6 R s6 kR => ⟨_, rfl, kR H6 (Same.refl _)⟩) fun H6 s6 hp => ?_
    · obtain ⟨sw, r, h3⟩ := had_dd (x1.same (s2.trans s6)) k d hd
      refine ⟨_, rfl, h3.ob.desk T ⟨_, rfl, rfl, _, rfl, ?_⟩⟩
      rw [dec_int]
      exact kR H6 (Same.refl _)
    · obtain ⟨L, eL⟩ : ∃ L, L = (h.had k).filter fun d => d.stamp.hand == k := ⟨_, rfl⟩
      rw [← eL] at hp q
      have sub : ∀ d ∈ L, d ∈ h.had k := fun d hd => by rw [eL] at hd; exact (List.mem_filter.mp hd).1
      have s06 := s1.trans (s2.trans s6)
      have hp' : H6 p = some (.lst (rfs c.ad L)) := hp
      have h16 : H6 p1 = some (.lst (nums ((Sq36.held (h.had k)).map (·.id)))) := s6 _ _ (s2 _ _ h1)
      refine ⟨_, rfl, p, _, rfl, .of hp', RT.for_Itv (K := K) (a := p) (xs := rfs c.ad L) (fun i σ H' => ∃ v : Option V, σ = [some (.ref c.hs), some (.int (k : Int)), some (.ref p1), some (.ref p), v] ∧ Same H6 H' ∧ scan ((Sq36.held (h.had k)).map (·.id)) L.reverse = scan ((Sq36.held (h.had k)).map (·.id)) (L.reverse.drop i))
        ⟨none, rfl, Same.refl _, by rw [List.drop_zero]⟩ (fun i σ H' ⟨_, _, z, _⟩ => .of (z _ _ hp')) ?_ ?_⟩
      · rintro i v σ H' hi hx ⟨v4, rfl, s7, sc⟩
        rw [rfs_len] at hi hx
        obtain ⟨d, hd, rfl⟩ := rfs_get hx
        have hr' : L.reverse[i]? = some d := by
          rw [List.getElem?_reverse hi]
          exact hd
        have dr : L.reverse.drop i = d :: L.reverse.drop (i + 1) := by
          obtain ⟨hlt, hge⟩ := List.getElem?_eq_some_iff.mp hr'
          rw [List.drop_eq_getElem_cons hlt, hge]
        rw [dr] at sc
        have hm := sub d (List.mem_of_getElem? hd)
        have x7 := x.same (s06.trans s7)
        obtain ⟨sw, r, h3⟩ := had_dd x7 k d hm
        refine ⟨_, rfl, _, sw, r, _, d, rfl, h3, fun H8 s8 => ⟨_, rfl, ?_⟩⟩
        rw [scan_cons, ← isTk_eq] at sc
        cases ct : isTaking d.act with
        | false =>
          rw [if_pos ct] at sc
          rw [sc] at q
          exact iteT (q H8 (s06.trans (s7.trans s8)))
        | true =>
          rw [if_neg (by rw [ct]; exact Bool.noConfusion)] at sc
          have h8 := h3.keep (.of s8)
          obtain ⟨ty, q1, _, _, q2⟩ := ty_act T h8.act
          refine iteF ⟨_, rfl, h8.ob.act T ⟨_, _, ty, _, _, rfl, .own _, q1, q2, _, rfl, ?_⟩⟩
          rw [isBack_eq] at sc
          cases cb : isBackA d.act with
          | false =>
            rw [cb, Bool.false_and, if_neg Bool.false_ne_true] at sc
            exact iteF (iteF ⟨some (rf c.ad d), rfl, s7.trans s8, sc⟩)
          | true =>
            rw [cb, Bool.true_and] at sc
            obtain ⟨j, hj⟩ := isBackA_act cb
            have tj : target d = j := by unfold target; rw [hj]
            rw [tj] at sc
            have h8a := h8.act
            rw [hj] at h8a
            refine iteT ⟨_, rfl, h8.ob.act T (obTakingBack.deed T h8a ⟨_, rfl, p1, _, rfl, .inl (.of (s8 _ _ (s7 _ _ h16))), rfl, nums_flat _, _, rfl, ?_⟩)⟩
            rw [if_pos rfl, inV_nums]
            cases cc : ((Sq36.held (h.had k)).map (·.id)).contains j with
            | true =>
              rw [cc, Bool.not_true, if_neg Bool.false_ne_true] at sc
              exact iteF ⟨some (rf c.ad d), rfl, s7.trans s8, sc⟩
            | false =>
              rw [cc, Bool.not_false, if_pos rfl] at sc
              rw [sc] at q
              exact iteT ⟨_, rfl, h8.ob.act T (obTakingBack.deed T h8a (q H8 (s06.trans (s7.trans s8))))⟩
      · rintro σ H' ⟨v4, rfl, s7, sc⟩
        rw [rfs_len, ← List.length_reverse, List.drop_length] at sc
        rw [sc] at q
        exact q H' (s06.trans s7)
def sp_redo (A : Ad) : Sp := fun vs H Q _ => ∃ (c : Cells) (h : Sq36.House) (k : Nat), vs = [.ref c.hs, .int (k : Int)] ∧ HouseAt A c H h ∧ Res A c h H (h.step (.redo k)) Q
theorem next_own {h : Sq36.House} {k : Nat} {d : Sq36.Deed} (e : h.nextOwn k = some d) : d ∈ h.own k := by
  unfold Sq36.House.nextOwn at e
  split at e
  · cases e
  · split at e
    · cases e
    · exact List.mem_of_find?_eq_some e
set_option maxHeartbeats 8000000 in
theorem ok_redo (T : Txt K mg A D) : FnOk P w K mg base CX0 7 A.f_redo D.d_redo ["house", "desk"] (sp_redo A) := by
  refine T.f_redo.ok sc_redo (fun vs H Q E h => ?_) (fun cdv ar outer s H vs Q E hr h => have hu := hu_of hr; ⟨_, (pss_cons (ps_if (pt_not (pt_val (pe_call (ok_has_desk T) (by exact hr.mono (by decide)) (by rfl) T.m_has_desk T.f_has_desk.kp T.b_has_desk .nil pass0 (pa_cons (pv 0) (pa_cons (pv 1) pa_nil)))))
      (pss_one (ps_ret (pe_lst (pa_cons (pe_glob (v := .int (-2)) (by rfl) (Classical.choose_spec T.g_NO_DESK) ⟨_, rfl⟩) pa_nil))))
      pss_nil)
    (pss_cons (ps_set (i := 2) sc_redo.nd rfl (Or.inl rfl) (pe_call (ok_taken_last T) (by exact hr.mono (by decide)) (by rfl) T.m_taken_last T.f_taken_last.kp T.b_taken_last .nil pass0 (pa_cons (pv 0) (pa_cons (pv 1) pa_nil))))
    (pss_cons (ps_if (pt_cmpR op_isN (pv 2) pe_non (nomark _))
      (pss_one (ps_ret (pe_lst (pa_cons (pe_glob (v := .int (-3)) (by rfl) (Classical.choose_spec T.g_NOT_THERE) ⟨_, rfl⟩) pa_nil))))
      pss_nil)
    (pss_cons (ps_if (pt_val (pe_call (ok_is_too_late T) (by exact hr.mono (by decide)) (by rfl) T.m_is_too_late T.f_is_too_late.kp T.b_is_too_late .nil pass0 (pa_cons (pv 0) (pa_cons (pv 1) (pa_cons (pv 2) pa_nil)))))
      (pss_one (ps_ret (pe_lst (pa_cons (pe_glob (v := .int (-4)) (by rfl) (Classical.choose_spec T.g_TOO_LATE) ⟨_, rfl⟩) pa_nil))))
      pss_nil)
    (pss_cons (ps_if (pt_val (pe_call (ok_is_full T) (by exact hr.mono (by decide)) (by rfl) T.m_is_full T.f_is_full.kp T.b_is_full .nil pass0 (pa_cons (pv 0) pa_nil)))
      (pss_one (ps_ret (pe_lst (pa_cons (pe_glob (v := .int (-5)) (by rfl) (Classical.choose_spec T.g_FULL) ⟨_, rfl⟩) pa_nil))))
      pss_nil)
    (pss_cons (ps_expr (pe_call (ok_do_deed T) (by exact hr.mono (by decide)) (by rfl) T.m_do_deed T.f_do_deed.kp T.b_do_deed .nil pass0 (pa_cons (pv 0) (pa_cons (pv 1) (pa_cons (pe_make T.mk_DoingAgain (ok_DoingAgain_init T) (by exact hr.mono (by decide)) (by rfl) T.c_DoingAgain T.b_DoingAgain_init .nil pass0 (pa_cons (pv 2) pa_nil)) pa_nil)))))
    (pss_one (ps_ret (pe_lst (pa_cons (pv 2) pa_nil)))))))))), ?_⟩)
  · obtain ⟨c, h, k, rfl, _⟩ := h; rfl
  · obtain ⟨c, h, k, rfl, x, res⟩ := h
    have st : h.step (.redo k) = if h.hands ≤ k then (h, Sq36.says (-2)) else match h.nextOwn k with
      | none => (h, Sq36.says (-3))
      | some d => if h.inTime k d = false then (h, Sq36.says (-4)) else h.try_ k (.again d.id) fun u => (u, Sq36.says d.id) := rfl
    refine ⟨_, rfl, _, rfl, c, h, k, rfl, x, _, rfl, ?_⟩
    by_cases hk : k < h.hands
    case neg =>
      rw [decide_eq_false hk]
      exact iteT (refuse x (Same.refl _) res (by rw [st, if_pos (by omega)]))
    rw [decide_eq_true hk]
    rw [if_neg (by omega)] at st
    refine iteF ⟨_, rfl, _, rfl, c, h, k, rfl, x, hk, fun H1 s1 => ?_⟩
    have x1 := x.same s1
    cases hn : h.nextOwn k with
    | none =>
      rw [hn] at st
      exact ⟨_, rfl, rfl, _, rfl, iteT (refuse x1 s1 res st)⟩
    | some d =>
      rw [hn] at st
      simp only at st
      have hown := next_own hn
      have hhad : d ∈ h.had k := by rw [own_eq] at hown; exact (List.mem_filter.mp hown).1
      have hall : h.all[d.id]? = some d := by
        obtain ⟨j, hj⟩ := List.getElem?_of_mem (x.ok.mem_had.mp hhad).1
        rw [x.ok.deeds.id j d hj]; exact hj
      refine ⟨_, rfl, rfl, _, rfl, iteF ⟨_, rfl, _, rfl, _, rfl, c, h, k, d.id, d, rfl, x1, hk, hall, _, rfl, ?_⟩⟩
      cases ht : h.inTime k d with
      | false => exact iteT (refuse x1 s1 res (by rw [st]; exact if_pos ht))
      | true =>
        have st2 := st.trans (if_neg (fun q => by rw [ht] at q; cases q))
        refine iteF ⟨_, rfl, c, h, rfl, x1, _, rfl, ?_⟩
        by_cases hf : 100 ≤ h.all.length
        · rw [decide_eq_true hf]
          exact iteT (refuse x1 s1 res (by rw [st2, try_no hf]))
        · rw [decide_eq_false hf]
          rw [st2, try_yes hf] at res
          refine iteF ⟨_, rfl, _, rfl, _, rfl, mk_DoingAgain fun ra H3 nra s3 h3 => ?_⟩
          have x3 := x1.same s3
          refine ⟨c, h, k, .again d.id, ra, rfl, x3, hk, by omega, h3, x1.fresh nra, x.ok.taking hk (by omega) hown (.inr rfl), fun H5 c' e1 e2 e3 kp x5 => ⟨_, rfl, by show 1 ≤ sizeLine; decide, finish x res e1 e3 rfl e2 (fun b v nb e => kp b v nb (s3 _ _ (s1 _ _ e))) x5 rfl⟩⟩
end
end Ho
end

section
set_option Elab.async false
set_option maxRecDepth 100000
set_option maxHeartbeats 4000000
/-! send -/
namespace Ho
open PySem PySem.W PyProof.Rows L2
section
variable {P : Program} {w : World} {K : PySem.W.Frag} {mg : Str → Option Value} {base : Heap} {A : Ad} {D : Fd}
def sp_unsure (A : Ad) : Sp := fun vs H Q _ => ∃ (c : Cells) (h : Sq36.House) (k j : Nat), vs = [.ref c.hs, .int (k : Int), .int (j : Int)] ∧ HouseAt A c H h ∧ k < h.hands ∧ j < h.hands ∧ k ≠ j ∧
  ∀ (H' : Hp) (p : Addr), Same H H' → H p = none → H' p = some (.lst ((h.lacks k j).map fun d => V.int (d.id : Int))) → Q (.ref p) H'
theorem ok_unsure (T : Txt K mg A D) : FnOk P w K mg base CX0 5 A.f_unsure D.d_unsure ["house", "source", "target"] (sp_unsure A) := by
  refine T.f_unsure.ok sc_unsure (fun vs H Q E h => ?_) (fun cdv ar outer s H vs Q E hr h => have hu := hu_of hr; ⟨_, (pss_cons (ps_set (i := 3) sc_unsure.nd rfl (Or.inr rfl) (pe_ix ix_list (pe_fld (pe_ix ix_list (pe_fld (pv 0) (by rfl)) (pv 1) (by exact fun _ _ => rfl)) (by rfl)) (pv 2) (by exact fun _ _ => rfl)))
    (pss_one (ps_ret (pe_lc (own := [("deed", 4)]) (g := gName 4)  (by rfl) sc_unsure.nd (pi_list (pe_call (ok_had T) (by exact hr.mono (by decide)) (by rfl) T.m_had T.f_had.kp T.b_had .nil pass0 (pa_cons (pv 0) (pa_cons (pv 1) pa_nil)))) (blkOk_by (own := [("deed", 4)]) (N := N_unsure) (sc := defScope s_unsure) (by decide +kernel)) (fun _ _ _ _ _ => pg_name (i := 4) sc_unsure.nd rfl (Or.inl rfl)) (fun _ _ _ _ _ => pts_one (by exact (pt_cmpR op_gt (pe_fldK (K := K) (by rfl) (pv 4) (by rfl)) (pe_ix (ixK (K := K) (by rfl)) (pv 3) (pe_fldK (K := K) (by rfl) (pv 4) (by rfl)) (by exact fun _ _ => rfl)) (nomark _)))) (fun _ _ _ _ _ => (by exact (pe_fldK (K := K) (by rfl) (pv 4) (by rfl)))))))), ?_⟩)
  · obtain ⟨c, h, k, j, rfl, _⟩ := h; rfl
  · obtain ⟨c, h, k, j, rfl, x, hk, hj, hkj, q⟩ := h
    have dx := x.desk k hk
    have D1 := x.ok.deskOk hk
    refine ⟨_, rfl, x.ob.desks T ⟨_, rfl, c.dk, _, _, _, rfl, rfl, .of x.dk, atI_nat (refs_get hk), dx.ob.sure T ⟨_, rfl, c.sa k, _, _, _, rfl, rfl, .of dx.sa, atI_nat (refs_get hj), ?_⟩⟩⟩
    refine ⟨_, rfl, _, rfl, c, h, k, rfl, x, hk, fun H1 p1 s1 n1 h1 => ⟨p1, rfl, ⟨_, .of h1⟩, fun p np => ?_⟩⟩
    have wl := (x.ok.wf k).len
    have es : h.sure k j = ((h.desk k).sure[j]?).getD [] := by unfold Sq36.House.sure; rw [if_neg hkj]
    have lj : j < (h.desk k).sure.length := by rw [D1.sure]; exact hj
    have ls : (((h.desk k).sure[j]?).getD []).length = h.hands := by
      rw [List.getElem?_eq_getElem lj]
      exact D1.sures _ (List.getElem_mem lj)
    refine lc_pick (K := K) (a := p1) (l := h.had k) (f := rf c.ad) (i := 4) (fun d => !Sq36.was (h.sure k j) d) (fun d => V.int (d.id : Int)) np (.of h1) (by omega) (fun d hd H6 R s6 kR => ?_) (fun d hd _ H6 R s6 kR => ?_) fun H6 s6 hp => q H6 p (s1.trans s6) (s1.free np) hp
    · obtain ⟨sw, r, h3⟩ := had_dd (x.same (s1.trans s6)) k d hd
      have hh : d.stamp.hand < (((h.desk k).sure[j]?).getD []).length := by rw [ls]; exact x.ok.deeds.hand d (x.ok.mem_had.mp hd).1
      refine ⟨_, rfl, h3.ob.rank T ⟨_, rfl, _, rfl, h3.ob.desk T ⟨c.sr k j, _, _, _, rfl, rfl, .of (s6 _ _ (s1 _ _ (dx.sr j hj))), atI_nat (nums_get hh), _, _, rfl, rfl, _, rfl, ?_⟩⟩⟩
      have e : decide (((Sq36.at_ (((h.desk k).sure[j]?).getD []) d.stamp.hand : Nat) : Int) < (d.n : Int)) = !Sq36.was (h.sure k j) d := by
        rw [dec_lt, es]
        unfold Sq36.was
        by_cases z : d.n ≤ Sq36.at_ (((h.desk k).sure[j]?).getD []) d.stamp.hand
        · rw [decide_eq_true z, decide_eq_false (by omega)]; rfl
        · rw [decide_eq_false z, decide_eq_true (by omega)]; rfl
      rw [e]
      exact kR H6 (Same.refl _)
    · obtain ⟨sw, r, h3⟩ := had_dd (x.same (s1.trans s6)) k d hd
      exact ⟨_, rfl, h3.ob.number T (kR H6 (Same.refl _))⟩
def sp_written (A : Ad) : Sp := fun vs H Q _ => ∃ (c : Cells) (h : Sq36.House) (k j : Nat), vs = [.ref c.hs, .int (k : Int), .int (j : Int)] ∧ HouseAt A c H h ∧ k < h.hands ∧ j < h.hands ∧ k ≠ j ∧
  ∀ (H' : Hp) (la lc ln : Addr), Same H H' → H la = none → H lc = none → H ln = none → obLetter A H' la (.int (k : Int)) (.int (j : Int)) (.ref lc) (.int ((h.desk k).clock : Int)) (.ref ln) → H' lc = some (.lst (nums (h.desk k).has)) → H' ln = some (.lst ((h.lacks k j).map fun d => V.int (d.id : Int))) → Q (.ref la) H'
theorem ok_written (T : Txt K mg A D) : FnOk P w K mg base CX0 6 A.f_written D.d_written ["house", "source", "target"] (sp_written A) := by
  refine T.f_written.ok sc_written (fun vs H Q E h => ?_) (fun cdv ar outer s H vs Q E hr h => have hu := hu_of hr; ⟨_, (pss_cons (ps_set (i := 3) sc_written.nd rfl (Or.inl rfl) (pe_ix ix_list (pe_fld (pv 0) (by rfl)) (pv 1) (by exact fun _ _ => rfl)))
    (pss_cons (ps_set (i := 4) sc_written.nd rfl (Or.inl rfl) (pe_call (ok_unsure T) (by exact hr.mono (by decide)) (by rfl) T.m_unsure T.f_unsure.kp T.b_unsure .nil pass0 (pa_cons (pv 0) (pa_cons (pv 1) (pa_cons (pv 2) pa_nil)))))
    (pss_one (ps_ret (pe_make T.mk_Letter (ok_Letter_init T) (by exact hr.mono (by decide)) (by rfl) T.c_Letter T.b_Letter_init .nil pass0 (pa_cons (pv 1) (pa_cons (pv 2) (pa_cons (pe_callTy call_list_of (by rfl) T.n_list (by decide +kernel) (pa_cons (pe_fld (pv 3) (by rfl)) pa_nil)) (pa_cons (pe_fld (pv 3) (by rfl)) (pa_cons (pv 4) pa_nil)))))))))), ?_⟩)
  · obtain ⟨c, h, k, j, rfl, _⟩ := h; rfl
  · obtain ⟨c, h, k, j, rfl, x, hk, hj, hkj, q⟩ := h
    refine ⟨_, rfl, x.ob.desks T ⟨_, rfl, c.dk, _, _, _, rfl, rfl, .of x.dk, atI_nat (refs_get hk), ?_⟩⟩
    refine ⟨_, rfl, _, rfl, _, rfl, c, h, k, j, rfl, x, hk, hj, hkj, fun H1 ln s1 n1 h1 => ?_⟩
    have dx := (x.same s1).desk k hk
    refine ⟨_, rfl, _, rfl, _, rfl, dx.ob.counts T ⟨c.ca k, _, rfl, .inl (.of dx.ca), fun lc n2 => ?_⟩⟩
    have s2 : Same H1 (upd H1 lc (.lst (nums (h.desk k).has))) := same_upd n2
    have dx2 := dx.same s2
    refine ⟨_, rfl, dx2.ob.greatest T ⟨_, rfl, mk_Letter fun la H3 n3 s3 h3 => ?_⟩⟩
    exact q H3 la lc ln (s1.trans (s2.trans s3)) ((s1.trans s2).free n3) (s1.free n2) n1 h3 (s3 _ _ upd_same) (s3 _ _ (s2 _ _ h1))
def sp_send (A : Ad) : Sp := fun vs H Q _ => ∃ (c : Cells) (h : Sq36.House) (k j : Nat), vs = [.ref c.hs, .int (k : Int), .int (j : Int)] ∧ HouseAt A c H h ∧ Res A c h H (h.step (.send k j)) Q
theorem refs_snoc {f g : Nat → Addr} {n : Nat} (h : ∀ i, i < n → g i = f i) : refs f n ++ [V.ref (g n)] = refs g (n + 1) := by
  unfold refs
  rw [List.range_succ, List.map_append]
  congr 1
  refine List.map_congr_left fun i hi => ?_
  rw [h i (List.mem_range.mp hi)]
set_option maxHeartbeats 8000000 in
theorem ok_send (T : Txt K mg A D) : FnOk P w K mg base CX0 7 A.f_send D.d_send ["house", "source", "target"] (sp_send A) := by
  refine T.f_send.ok sc_send (fun vs H Q E h => ?_) (fun cdv ar outer s H vs Q E hr h => have hu := hu_of hr; ⟨_, (pss_cons (ps_if (PW.pt (pw_or (pt_not (pt_val (pe_call (ok_has_desk T) (by exact hr.mono (by decide)) (by rfl) T.m_has_desk T.f_has_desk.kp T.b_has_desk .nil pass0 (pa_cons (pv 0) (pa_cons (pv 1) pa_nil))))) (pw_or (pt_not (pt_val (pe_call (ok_has_desk T) (by exact hr.mono (by decide)) (by rfl) T.m_has_desk T.f_has_desk.kp T.b_has_desk .nil pass0 (pa_cons (pv 0) (pa_cons (pv 2) pa_nil))))) (pw_or1 (pt_cmpR op_eq (pv 1) (pv 2) (nomark _))))))
      (pss_one (ps_ret (pe_lst (pa_cons (pe_glob (v := .int (-2)) (by rfl) (Classical.choose_spec T.g_NO_DESK) ⟨_, rfl⟩) pa_nil))))
      pss_nil)
    (pss_cons (ps_if (pt_cmpR op_ge (pe_callB call_len_seq (by rfl) T.n_len PySem.boot_len (pa_cons (pe_fld (pv 0) (by rfl)) pa_nil)) (pe_glob (v := .int (200)) (by rfl) (Classical.choose_spec T.g_MOST_LETTERS) ⟨_, rfl⟩) (nomark _))
      (pss_one (ps_ret (pe_lst (pa_cons (pe_glob (v := .int (-5)) (by rfl) (Classical.choose_spec T.g_FULL) ⟨_, rfl⟩) pa_nil))))
      pss_nil)
    (pss_cons (ps_set (i := 3) sc_send.nd rfl (Or.inl rfl) (pe_call (ok_written T) (by exact hr.mono (by decide)) (by rfl) T.m_written T.f_written.kp T.b_written .nil pass0 (pa_cons (pv 0) (pa_cons (pv 1) (pa_cons (pv 2) pa_nil)))))
    (pss_cons (ps_expr (pe_bm PySem.F.plainAttrs_list PySem.F.slot_list_append PySem.F.type_list_append mt_append (pe_fld (pv 0) (by rfl)) (pa_cons (pv 3) pa_nil)))
    (pss_one (ps_ret (pe_lst (pa_cons (pe_op op_sub (pe_callB call_len_seq (by rfl) T.n_len PySem.boot_len (pa_cons (pe_fld (pv 0) (by rfl)) pa_nil)) pe_int) (pa_cons (pe_callB call_len_seq (by rfl) T.n_len PySem.boot_len (pa_cons (pe_fld (pv 3) (by rfl)) pa_nil)) pa_nil))))))))), ?_⟩)
  · obtain ⟨c, h, k, j, rfl, _⟩ := h; rfl
  · obtain ⟨c, h, k, j, rfl, x, res⟩ := h
    have st : h.step (.send k j) = if h.hands ≤ k ∨ h.hands ≤ j ∨ k = j then (h, Sq36.says (-2)) else if Sq36.LETTERS ≤ h.letters.length then (h, Sq36.says (-5)) else
      ({ h with letters := h.letters ++ [⟨k, j, (h.desk k).has, (h.desk k).clock⟩] }, ⟨h.letters.length, [((h.lacks k j).length : Int)]⟩) := rfl
    refine ⟨_, rfl, _, rfl, c, h, k, rfl, x, _, rfl, ?_⟩
    by_cases hk : k < h.hands
    case neg =>
      rw [decide_eq_false hk]
      exact iteT (iteT (refuse x (Same.refl _) res (by rw [st, if_pos (.inl (by omega))])))
    rw [decide_eq_true hk]
    refine iteF ⟨_, rfl, _, rfl, c, h, j, rfl, x, _, rfl, ?_⟩
    by_cases hj : j < h.hands
    case neg =>
      rw [decide_eq_false hj]
      exact iteT (iteT (refuse x (Same.refl _) res (by rw [st, if_pos (.inr (.inl (by omega)))])))
    rw [decide_eq_true hj]
    refine iteF ⟨_, rfl, _, rfl, rfl, _, rfl, ?_⟩
    have ge : decide (V.int (k : Int) = V.int (j : Int)) = (k == j) := dec_int k j
    by_cases hkj : k = j
    · rw [show (k == j) = true from beq_iff_eq.mpr hkj] at ge
      refine if_true' ge (refuse x (Same.refl _) res (by rw [st, if_pos (.inr (.inr hkj))]))
    rw [show (k == j) = false from beq_eq_false_iff_ne.mpr hkj] at ge
    have st1 := st.trans (if_neg (fun z => by omega))
    refine if_false' ge ⟨_, rfl, x.ob.letters T ⟨c.lt, _, rfl, .inl (.of x.lt), _, _, rfl, rfl, _, rfl, ?_⟩⟩
    rw [refs_len]
    have gl : decide ((200 : Int) ≤ (h.letters.length : Int)) = decide (200 ≤ h.letters.length) := dec_le 200 _
    by_cases hl : 200 ≤ h.letters.length
    · rw [decide_eq_true hl] at gl
      exact if_true' gl (refuse x (Same.refl _) res (by rw [st1]; exact if_pos hl))
    rw [decide_eq_false hl] at gl
    rw [st1.trans (if_neg hl)] at res
    refine if_false' gl ⟨_, rfl, _, rfl, _, rfl, c, h, k, j, rfl, x, hk, hj, hkj, fun H1 la lc ln s1 nla nlc nln ob1 hlc hln => ?_⟩
    have x1 := x.same s1
    refine ⟨_, rfl, x1.ob.letters T ⟨.inl ⟨rfl, _, .of x1.lt⟩, _, rfl, c.lt, _, _, rfl, rfl, x1.lt, (by rw [refs_len]; exact small_of (by omega)), ?_⟩⟩
    have mlt : c.M0 h.hands c.lt := c.inM .lt trivial
    have o2 : ∀ b, b ≠ c.lt → upd H1 c.lt (.lst (refs c.la h.letters.length ++ [V.ref la])) b = H1 b := fun b hb => upd_ne hb
    have e2 : upd H1 c.lt (.lst (refs c.la h.letters.length ++ [V.ref la])) c.lt = some (.lst (refs c.la h.letters.length ++ [V.ref la])) := upd_same
    generalize upd H1 c.lt (.lst (refs c.la h.letters.length ++ [V.ref la])) = H2 at o2 e2 ⊢
    have kp : Keep (c.M0 h.hands) H1 H2 := fun b o nb e => by rw [o2 b (fun z => nb (z ▸ mlt))]; exact e
    have f1 := x.fresh nla
    have f2 := x.fresh nlc
    have f3 := x.fresh nln
    obtain ⟨c', ec⟩ : ∃ c' : Cells, c' = { c with la := fun i => if i = h.letters.length then la else c.la i, lc := fun i => if i = h.letters.length then lc else c.lc i, ln := fun i => if i = h.letters.length then ln else c.ln i } := ⟨_, rfl⟩
    have cM : c'.M h.hands = c.M h.hands := by rw [ec]; rfl
    have hs2 : obHouse A H2 c.hs (.ref c.dk) (.ref c.dl) (.ref c.lt) (.int (h.things : Int)) := by
      obtain ⟨d, e⟩ := x1.ob
      exact ⟨d, by rw [o2 _ x.apart.h2]; exact e⟩
    have ob2 : obLetter A H2 la (.int (k : Int)) (.int (j : Int)) (.ref lc) (.int ((h.desk k).clock : Int)) (.ref ln) := by
      obtain ⟨d, e⟩ := ob1
      exact ⟨d, kp.up _ _ f1 e⟩
    have x2 : HouseAt A c' H2 { h with letters := h.letters ++ [⟨k, j, (h.desk k).has, (h.desk k).clock⟩] } := by
      refine ⟨x.ok.send hk hj hkj (by omega), ?_, ?_, ?_, ?_, ?_, ?_, ?_, ?_, ?_, ?_, x.late.send x.ok hk, ?_⟩
      · rw [ec]; exact hs2
      · rw [ec]; exact kp.up _ _ x.ndk x1.dk
      · show ¬ c'.M h.hands c'.dk
        rw [cM, ec]; exact x.ndk
      · rw [ec]
        show H2 c.dl = _
        rw [o2 _ x.apart.h3]; exact x1.dl
      · show Dd A (c'.M h.hands) c'.ad H2 h.all
        rw [cM, ec]
        exact x1.dd.keep kp.up
      · show H2 c'.lt = some (.lst (refs c'.la (h.letters ++ [_]).length))
        have e0 : c'.lt = c.lt := by rw [ec]
        rw [e0, e2, List.length_append, List.length_singleton, ← refs_snoc (f := c.la)]
        · rw [ec]
          show _ = some (HO.lst (_ ++ [V.ref (if h.letters.length = h.letters.length then la else _)]))
          rw [if_pos rfl]
        · intro i hi
          rw [ec]
          exact if_neg (by omega)
      · intro i hi
        have d1 := x1.desk i hi
        show DeskAt A c' H2 h.hands i (h.desk i)
        refine d1.stand (by rw [ec]) (by rw [ec]) (by rw [ec]) (by rw [ec]) (by rw [ec]) (by rw [ec]) (fun t ht => o2 _ (x.apart.ne t .lt ?_ trivial fun z => by subst z; exact ht)) kp.up fun b o _ nb => by rw [cM]; exact nb
        cases t <;> first | exact ht.elim | (cases ht; exact hi)
      · intro i m hm
        have hm' : (h.letters ++ [⟨k, j, (h.desk k).has, (h.desk k).clock⟩])[i]? = some m := hm
        rw [List.getElem?_append] at hm'
        split at hm'
        · rename_i hi
          obtain ⟨ns, l1⟩ := x1.letter i m hm'
          have l2 := l1.keep kp.up
          refine ⟨ns, ?_⟩
          rw [ec]
          have ne : ¬ i = h.letters.length := by omega
          refine ⟨?_, ?_, ?_, ?_, ?_, ?_⟩ <;> simp only [if_neg ne]
          · exact l2.ob
          · exact l2.lc
          · exact l2.ln
          · exact l2.nla
          · exact l2.nlc
          · exact l2.nln
        · rename_i hi
          have i0 : i - h.letters.length = 0 := by
            cases z : i - h.letters.length with
            | zero => rfl
            | succ a => rw [z] at hm'; simp at hm'
          rw [i0] at hm'
          have em : _ = m := Option.some.inj hm'
          subst em
          have ie : i = h.letters.length := by omega
          refine ⟨(h.lacks k j).map fun d => V.int (d.id : Int), ?_⟩
          rw [ec]
          refine ⟨?_, ?_, ?_, ?_, ?_, ?_⟩ <;> simp only [if_pos ie]
          · exact ob2
          · exact kp.up _ _ f2 hlc
          · exact kp.up _ _ f3 hln
          · exact f1
          · exact f2
          · exact f3
      · rw [ec]
        exact ⟨x.apart.inj, x.apart.fr⟩
      · intro b hb z
        have hb' : c.fr b := by rw [ec] at hb; exact hb
        cases y : H1 b with
        | none => exact x1.frt b hb' y
        | some o => rw [kp b o (x.apart.fr b hb') y] at z; cases z
      · intro i hi
        have e0 : c'.fa i = c.fa i := by rw [ec]
        rw [e0]
        refine (x1.fa i hi).keep fun o e => ?_
        rw [o2 (c.fa i) (x.apart.ne (.fa i) .lt hi trivial (fun z => by cases z))]
        exact e
    refine ⟨_, rfl, hs2.letters T ⟨c.lt, _, rfl, .inl (.of e2), _, _, rfl, rfl, _, rfl, ob2.deeds T ⟨ln, _, rfl, .inl (.of (kp.up _ _ f3 hln)), by show 2 ≤ sizeLine; decide, finish x res (by rw [ec]) (by rw [ec]) rfl cM (fun b v nb e => kp b v nb (s1 _ _ e)) x2 ?_⟩⟩⟩
    rw [List.length_append, refs_len, List.length_map]
    show [V.int (((h.letters.length + 1 : Nat) : Int) - 1), V.int ((h.lacks k j).length : Int)] = [V.int (h.letters.length : Int), V.int ((h.lacks k j).length : Int)]
    have : ((h.letters.length + 1 : Nat) : Int) - 1 = (h.letters.length : Int) := by omega
    rw [this]
end
end Ho
end

section
set_option Elab.async false
set_option maxRecDepth 100000
set_option maxHeartbeats 4000000
/-! Desk, House, begin -/
namespace Ho
open PySem PySem.W PyProof.Rows L2
def zeros (n : Nat) : List V := nums (List.replicate n 0)
theorem rep_zero (n : Nat) : (List.replicate n [V.int 0]).flatten = zeros n := by
  unfold zeros nums
  rw [List.map_replicate]
  induction n with
  | zero => rfl
  | succ n ih => rw [List.replicate_succ, List.replicate_succ, List.flatten_cons, ih]; rfl
section
variable {P : Program} {w : World} {K : PySem.W.Frag} {mg : Str → Option Value} {base : Heap} {A : Ad} {D : Fd}
/-- a desk's parts that may be written; where a desk lies -/
inductive Part where
  | da
  | ca
  | sa
  | ha
  | fa
structure Dk where
  da : Addr
  ca : Addr
  sa : Addr
  ha : Addr
  fa : Addr
  sr : Nat → Addr
def Dk.at (d : Dk) : Part → Addr
  | .da => d.da
  | .ca => d.ca
  | .sa => d.sa
  | .ha => d.ha
  | .fa => d.fa
/-- a desk at its beginning; H0: what was there ahead of it -/
structure New (A : Ad) (H0 H : Hp) (n : Nat) (d : Dk) : Prop where
  ob : obDesk A H d.da (.int 0) (.ref d.ca) (.ref d.sa) (.ref d.ha) (.ref d.fa)
  hca : H d.ca = some (.lst (zeros n))
  hsa : H d.sa = some (.lst (refs d.sr n))
  hha : H d.ha = some (.lst (zeros n))
  hfa : H d.fa = some (.dK [])
  hsr : ∀ j, j < n → H (d.sr j) = some (.lst (zeros n))
  new : ∀ p : Part, H0 (d.at p) = none
  nsr : ∀ j, j < n → H0 (d.sr j) = none
  inj : ∀ p q : Part, d.at p = d.at q → p = q
  out : ∀ (p : Part) (j : Nat), j < n → d.at p ≠ d.sr j
theorem New.same {H0 H H' : Hp} {n : Nat} {d : Dk} (x : New A H0 H n d) (s : Same H H') : New A H0 H' n d :=
  ⟨x.ob.same s, s _ _ x.hca, s _ _ x.hsa, s _ _ x.hha, s _ _ x.hfa, fun j hj => s _ _ (x.hsr j hj), x.new, x.nsr, x.inj, x.out⟩
theorem New.there {H0 H : Hp} {n : Nat} {d : Dk} (x : New A H0 H n d) (p : Part) : ∃ o, H (d.at p) = some o := by
  cases p
  · obtain ⟨dx, e⟩ := x.ob; exact ⟨_, e⟩
  · exact ⟨_, x.hca⟩
  · exact ⟨_, x.hsa⟩
  · exact ⟨_, x.hha⟩
  · exact ⟨_, x.hfa⟩
def sp_Desk_init (A : Ad) : Sp := fun vs H Q _ => ∃ (p dx : Addr) (H0 : Hp) (n : Nat), vs = [.ref p, .int (n : Int)] ∧ H = made H0 p dx A.Desk ∧ H0 p = none ∧ H0 dx = none ∧ dx ≠ p ∧ 1 ≤ n ∧ n ≤ 6 ∧
  ∀ (H' : Hp) (d : Dk), d.da = p → Same H0 H' → New A H0 H' n d → Q .non H'
set_option maxHeartbeats 8000000 in
theorem ok_Desk_init (T : Txt K mg A D) : FnOk P w K mg base CX0 1 A.f_Desk_init D.d_Desk_init ["self", "desks"] (sp_Desk_init A) := by
  refine T.f_Desk_init.ok sc_Desk_init (fun vs H Q E h => ?_) (fun cdv ar outer s H vs Q E hr h => have hu := hu_of hr; ⟨_, (pss_cons (ps_fld (pv 0) pe_int (by rfl))
    (pss_cons (ps_fld (pv 0) (pe_op op_rep (pe_lst (pa_cons pe_int pa_nil)) (pv 1)) (by rfl))
    (pss_cons (ps_fld (pv 0) (pe_lc (own := [("other", 2)]) (g := gName 2) (tt := tYes) (by rfl) sc_Desk_init.nd (pi_range1 (by rfl) T.n_range (pa_cons (pv 1) pa_nil)) (blkOk_by (own := [("other", 2)]) (N := N_Desk_init) (sc := defScope s_Desk_init) (by decide +kernel)) (fun _ _ _ _ _ => pg_name (i := 2) sc_Desk_init.nd rfl (Or.inl rfl)) (fun _ _ _ _ _ => pts_nil) (fun _ _ _ _ _ => (by exact (pe_op op_rep (pe_lst (pa_cons pe_int pa_nil)) (pv 1))))) (by rfl))
    (pss_cons (ps_fld (pv 0) (pe_op op_rep (pe_lst (pa_cons pe_int pa_nil)) (pv 1)) (by rfl))
    (pss_one (ps_fld (pv 0) pe_dnewK (by rfl))))))), ?_⟩)
  · obtain ⟨p, dx, H0, n, rfl, _⟩ := h; rfl
  · obtain ⟨p, dx, H0, n, rfl, rfl, np, nd, ne, h1, h6, q⟩ := h
    have rep : ∀ {R : V → Hp → Prop} {H1 : Hp}, (∀ (H2 : Hp) (a : Addr), Same H1 H2 → H1 a = none → H2 a = some (.lst (zeros n)) → R (.ref a) H2) →
        ([V.int 0] : List V).length ≤ sizeLine ∧ ∀ p1, H1 p1 = none → ∃ l k xs, V.ref p1 = V.ref l ∧ V.int (n : Int) = .int k ∧ upd H1 p1 (.lst [V.int 0]) l = some (.lst xs) ∧ -(2 ^ 63) ≤ k ∧ k < 2 ^ 63 ∧ xs.length * k.toNat ≤ sizeLine ∧ ∀ p2, upd H1 p1 (.lst [V.int 0]) p2 = none → R (.ref p2) (upd (upd H1 p1 (.lst [V.int 0])) p2 (.lst (List.replicate k.toNat xs).flatten)) := by
      intro R H1 hR
      refine ⟨by show 1 ≤ sizeLine; decide, fun p1 n1 => ⟨p1, _, _, rfl, rfl, upd_same, by omega, by omega, ?_, fun p2 n2 => hR _ p2 ((same_upd n1).trans (same_upd n2)) ((same_upd n1).free n2) ?_⟩⟩
      · show 1 * (n : Int).toNat ≤ sizeLine
        exact Nat.le_of_lt (small_of (by omega))
      · rw [upd_same, Int.toNat_natCast, rep_zero]
    refine ⟨_, rfl, p, A.Desk, dx, _, rfl, upd_same, T.cl_Desk, T.na_Desk_greatest, (by show 0 < 1000; decide), ?_⟩
    have s1 : Same H0 (upd (made H0 p dx A.Desk) p (.ins A.Desk dx (putF "greatest" (.int 0) []))) := same_upd2 (made_same np nd) np
    have e1 : upd (made H0 p dx A.Desk) p (.ins A.Desk dx (putF "greatest" (.int 0) [])) p = some (.ins A.Desk dx (putF "greatest" (.int 0) [])) := upd_same
    generalize upd (made H0 p dx A.Desk) p (.ins A.Desk dx (putF "greatest" (.int 0) [])) = H1 at s1 e1 ⊢
    obtain ⟨r1, r2⟩ := rep (H1 := H1) (R := fun v H2 => ∃ a, v = .ref a ∧ Same H1 H2 ∧ H1 a = none ∧ H2 a = some (.lst (zeros n))) fun H2 a z1 z2 z3 => ⟨a, rfl, z1, z2, z3⟩
    refine ⟨r1, fun p1 n1 => ⟨_, rfl, ?_⟩⟩
    obtain ⟨l, k, xs, a1, a2, a3, a4, a5, a6, a7⟩ := r2 p1 n1
    refine ⟨l, k, xs, a1, a2, a3, a4, a5, a6, fun p2 n2 => ?_⟩
    obtain ⟨ca, ec, s2, nca, hca⟩ := a7 p2 n2
    obtain rfl : p2 = ca := by injection ec
    generalize upd (upd H1 p1 (.lst [V.int 0])) p2 (.lst (List.replicate k.toNat xs).flatten) = H2 at s2 hca ⊢
    refine ⟨_, rfl, p, A.Desk, dx, _, rfl, s2 _ _ e1, T.cl_Desk, T.na_Desk_counts, (by show 1 < 1000; decide), ?_⟩
    have pca : p2 ≠ p := fun z => by rw [z, e1] at nca; cases nca
    have s3 : Same H0 (upd H2 p (.ins A.Desk dx (putF "counts" (.ref p2) (putF "greatest" (.int 0) [])))) := same_upd2 (s1.trans s2) np
    have e3 : upd H2 p (.ins A.Desk dx (putF "counts" (.ref p2) (putF "greatest" (.int 0) []))) p = some (.ins A.Desk dx (putF "counts" (.ref p2) (putF "greatest" (.int 0) []))) := upd_same
    have c3 : upd H2 p (.ins A.Desk dx (putF "counts" (.ref p2) (putF "greatest" (.int 0) []))) p2 = some (.lst (zeros n)) := by rw [upd_ne pca]; exact hca
    generalize upd H2 p (.ins A.Desk dx (putF "counts" (.ref p2) (putF "greatest" (.int 0) []))) = H3 at s3 e3 c3 ⊢
    refine ⟨_, rfl, (n : Int), rfl, by omega, by omega, fun L nL => ?_⟩
    refine lc_range (lo := 0) (n := n) (fun i H' => ∃ sr : Nat → Addr, Same H3 H' ∧ H' L = some (.lst (refs sr i)) ∧ ∀ j, j < i → H' (sr j) = some (.lst (zeros n)) ∧ H3 (sr j) = none ∧ sr j ≠ L) ⟨fun _ => 0, same_upd nL, upd_same, fun j hj => absurd hj (Nat.not_lt_zero _)⟩ ?_ ?_
    · rintro i H' hi ⟨sr, s4, hL, hs⟩
      refine ⟨rfl, ?_⟩
      obtain ⟨r1, r2⟩ := rep (H1 := H') (R := fun v H2 => ∃ a, v = .ref a ∧ Same H' H2 ∧ H' a = none ∧ H2 a = some (.lst (zeros n))) fun H2 a z1 z2 z3 => ⟨a, rfl, z1, z2, z3⟩
      unfold tYes
      dsimp only
      rw [if_pos rfl]
      refine ⟨r1, fun q1 m1 => ⟨_, rfl, ?_⟩⟩
      obtain ⟨l, k, xs, a1, a2, a3, a4, a5, a6, a7⟩ := r2 q1 m1
      refine ⟨l, k, xs, a1, a2, a3, a4, a5, a6, fun q2 m2 => ?_⟩
      obtain ⟨b, eb, s5, nb, hb⟩ := a7 q2 m2
      obtain rfl : q2 = b := by injection eb
      generalize upd (upd H' q1 (.lst [V.int 0])) q2 (.lst (List.replicate k.toNat xs).flatten) = H5 at s5 hb ⊢
      refine ⟨_, s5 _ _ hL, (by rw [refs_len]; exact small_of (by omega)), fun j => if j = i then q2 else sr j, same_upd2 (s4.trans s5) nL, ?_, fun j hj => ?_⟩
      · have ex : refs sr i ++ [V.ref ((fun j => if j = i then q2 else sr j) i)] = refs (fun j => if j = i then q2 else sr j) (i + 1) := refs_snoc (f := sr) (g := fun j => if j = i then q2 else sr j) (n := i) fun j hj => if_neg (Nat.ne_of_lt hj)
        rw [upd_same, ← ex]
        show some (HO.lst (refs sr i ++ [V.ref q2])) = some (HO.lst (refs sr i ++ [V.ref (if i = i then q2 else sr i)]))
        rw [if_pos rfl]
      · have hbL : q2 ≠ L := fun z => by rw [z, hL] at nb; cases nb
        by_cases z : j = i
        · subst z
          simp only [if_pos]
          exact ⟨by rw [upd_ne hbL]; exact hb, s4.free nb, hbL⟩
        · simp only [if_neg z]
          have old := hs j (by omega)
          exact ⟨by rw [upd_ne old.2.2]; exact s5 _ _ old.1, old.2⟩
    · rintro H' ⟨sr, s4, hL, hs⟩
      refine ⟨_, rfl, p, A.Desk, dx, _, rfl, s4 _ _ e3, T.cl_Desk, T.na_Desk_sure, (by show 2 < 1000; decide), ?_⟩
      have Lp : L ≠ p := fun z => by rw [z, e3] at nL; cases nL
      have srp : ∀ j, j < n → sr j ≠ p := fun j hj z => by have := (hs j hj).2.1; rw [z, e3] at this; cases this
      have caL : p2 ≠ L := fun z => by rw [← z, c3] at nL; cases nL
      have casr : ∀ j, j < n → p2 ≠ sr j := fun j hj z => by have := (hs j hj).2.1; rw [← z, c3] at this; cases this
      have s5 : Same H0 (upd H' p (.ins A.Desk dx (putF "sure" (.ref L) (putF "counts" (.ref p2) (putF "greatest" (.int 0) []))))) := same_upd2 (s3.trans s4) np
      have e5 : upd H' p (.ins A.Desk dx (putF "sure" (.ref L) (putF "counts" (.ref p2) (putF "greatest" (.int 0) [])))) p = some (.ins A.Desk dx (putF "sure" (.ref L) (putF "counts" (.ref p2) (putF "greatest" (.int 0) [])))) := upd_same
      have ca5 : upd H' p (.ins A.Desk dx (putF "sure" (.ref L) (putF "counts" (.ref p2) (putF "greatest" (.int 0) [])))) p2 = some (.lst (zeros n)) := by rw [upd_ne pca]; exact s4 _ _ c3
      have sa5 : upd H' p (.ins A.Desk dx (putF "sure" (.ref L) (putF "counts" (.ref p2) (putF "greatest" (.int 0) [])))) L = some (.lst (refs sr n)) := by rw [upd_ne Lp]; exact hL
      have sr5 : ∀ j, j < n → upd H' p (.ins A.Desk dx (putF "sure" (.ref L) (putF "counts" (.ref p2) (putF "greatest" (.int 0) [])))) (sr j) = some (.lst (zeros n)) := fun j hj => by rw [upd_ne (srp j hj)]; exact (hs j hj).1
      generalize upd H' p (.ins A.Desk dx (putF "sure" (.ref L) (putF "counts" (.ref p2) (putF "greatest" (.int 0) [])))) = H5 at s5 e5 ca5 sa5 sr5 ⊢
      -- self.heard
      obtain ⟨r1, r2⟩ := rep (H1 := H5) (R := fun v H2 => ∃ a, v = .ref a ∧ Same H5 H2 ∧ H5 a = none ∧ H2 a = some (.lst (zeros n))) fun H2 a z1 z2 z3 => ⟨a, rfl, z1, z2, z3⟩
      refine ⟨r1, fun q1 m1 => ⟨_, rfl, ?_⟩⟩
      obtain ⟨l, k, xs, a1, a2, a3, a4, a5, a6, a7⟩ := r2 q1 m1
      refine ⟨l, k, xs, a1, a2, a3, a4, a5, a6, fun q2 m2 => ?_⟩
      obtain ⟨b, eb, s6, nha, hha⟩ := a7 q2 m2
      obtain rfl : q2 = b := by injection eb
      generalize upd (upd H5 q1 (.lst [V.int 0])) q2 (.lst (List.replicate k.toNat xs).flatten) = H6 at s6 hha ⊢
      have hap : q2 ≠ p := fun z => by rw [z, e5] at nha; cases nha
      have haca : p2 ≠ q2 := fun z => by rw [← z, ca5] at nha; cases nha
      have hasa : L ≠ q2 := fun z => by rw [← z, sa5] at nha; cases nha
      have hasr : ∀ j, j < n → q2 ≠ sr j := fun j hj z => by rw [z, sr5 j hj] at nha; cases nha
      refine ⟨_, rfl, p, A.Desk, dx, _, rfl, s6 _ _ e5, T.cl_Desk, T.na_Desk_heard, (by show 3 < 1000; decide), ?_⟩
      have s7 : Same H0 (upd H6 p (.ins A.Desk dx (putF "heard" (.ref q2) (putF "sure" (.ref L) (putF "counts" (.ref p2) (putF "greatest" (.int 0) [])))))) := same_upd2 (s5.trans s6) np
      have e7 : upd H6 p (.ins A.Desk dx (putF "heard" (.ref q2) (putF "sure" (.ref L) (putF "counts" (.ref p2) (putF "greatest" (.int 0) []))))) p = some (.ins A.Desk dx (putF "heard" (.ref q2) (putF "sure" (.ref L) (putF "counts" (.ref p2) (putF "greatest" (.int 0) []))))) := upd_same
      have o7 : ∀ b, b ≠ p → upd H6 p (.ins A.Desk dx (putF "heard" (.ref q2) (putF "sure" (.ref L) (putF "counts" (.ref p2) (putF "greatest" (.int 0) []))))) b = H6 b := fun b hb => upd_ne hb
      generalize upd H6 p (.ins A.Desk dx (putF "heard" (.ref q2) (putF "sure" (.ref L) (putF "counts" (.ref p2) (putF "greatest" (.int 0) []))))) = H7 at s7 e7 o7 ⊢
      have ca7 : H7 p2 = some (.lst (zeros n)) := by rw [o7 _ pca]; exact s6 _ _ ca5
      have sa7 : H7 L = some (.lst (refs sr n)) := by rw [o7 _ Lp]; exact s6 _ _ sa5
      have ha7 : H7 q2 = some (.lst (zeros n)) := by rw [o7 _ hap]; exact hha
      have sr7 : ∀ j, j < n → H7 (sr j) = some (.lst (zeros n)) := fun j hj => by rw [o7 _ (srp j hj)]; exact s6 _ _ (sr5 j hj)
      -- self.forgotten
      intro f nf
      have fp : f ≠ p := fun z => by rw [z, e7] at nf; cases nf
      have fca : p2 ≠ f := fun z => by rw [← z, ca7] at nf; cases nf
      have fsa : L ≠ f := fun z => by rw [← z, sa7] at nf; cases nf
      have fha : q2 ≠ f := fun z => by rw [← z, ha7] at nf; cases nf
      have fsr : ∀ j, j < n → f ≠ sr j := fun j hj z => by rw [z, sr7 j hj] at nf; cases nf
      have s8 : Same H7 (upd H7 f (.dK [])) := same_upd nf
      have f8 : upd H7 f (.dK []) f = some (.dK []) := upd_same
      generalize upd H7 f (.dK []) = H8 at s8 f8 ⊢
      refine ⟨_, rfl, p, A.Desk, dx, _, rfl, s8 _ _ e7, T.cl_Desk, T.na_Desk_forgotten, (by show 4 < 1000; decide), ?_⟩
      have s9 : Same H0 (upd H8 p (.ins A.Desk dx (putF "forgotten" (.ref f) (putF "heard" (.ref q2) (putF "sure" (.ref L) (putF "counts" (.ref p2) (putF "greatest" (.int 0) []))))))) := same_upd2 (s7.trans s8) np
      have pca' := Ne.symm pca
      have Lp' := Ne.symm Lp
      have hap' := Ne.symm hap
      have fp' := Ne.symm fp
      refine q _ ⟨p, p2, L, q2, f, sr⟩ rfl s9 ⟨⟨dx, by rw [upd_same]; rfl⟩, by rw [upd_ne pca]; exact s8 _ _ ca7, by rw [upd_ne Lp]; exact s8 _ _ sa7, by rw [upd_ne hap]; exact s8 _ _ ha7, by rw [upd_ne fp]; exact f8, fun j hj => by rw [upd_ne (srp j hj)]; exact s8 _ _ (sr7 j hj), ?_, fun j hj => s3.free (hs j hj).2.1, ?_, ?_⟩
      · intro z
        cases z
        · exact np
        · exact s1.free nca
        · exact s3.free nL
        · exact s5.free nha
        · exact s7.free nf
      · intro y z e
        cases y <;> cases z <;> first | rfl | exact absurd e (by assumption) | exact absurd e.symm (by assumption)
      · intro y j hj
        cases y
        · exact fun z => srp j hj z.symm
        · exact casr j hj
        · exact fun z => (hs j hj).2.2 z.symm
        · exact hasr j hj
        · exact fsr j hj
end
end Ho
end

section
set_option Elab.async false
set_option maxRecDepth 100000
set_option maxHeartbeats 4000000
/-! House, begin -/
namespace Ho
open PySem PySem.W PyProof.Rows L2
section
variable {P : Program} {w : World} {K : PySem.W.Frag} {mg : Str → Option Value} {base : Heap} {A : Ad} {D : Fd}
/-- where desks lie -/
def dset (t : Nat → Dk) (i : Nat) (d : Dk) : Nat → Dk := fun k => if k = i then d else t k
/-- so many new desks, over what was there (H0) -/
structure News (A : Ad) (H0 H : Hp) (n i : Nat) (t : Nat → Dk) : Prop where
  each : ∀ k, k < i → New A H0 H n (t k)
  dd : ∀ k j, k < i → j < i → k ≠ j → ∀ p q : Part, (t k).at p ≠ (t j).at q
  im : ∀ k j, k < i → j < i → k ≠ j → ∀ (p : Part) (a : Nat), a < n → (t k).at p ≠ (t j).sr a
theorem News.same {H0 H H' : Hp} {n i : Nat} {t : Nat → Dk} (x : News A H0 H n i t) (s : Same H H') : News A H0 H' n i t := ⟨fun k hk => (x.each k hk).same s, x.dd, x.im⟩
theorem News.inj {H0 H : Hp} {n i : Nat} {t : Nat → Dk} (x : News A H0 H n i t) {k j : Nat} (hk : k < i) (hj : j < i) {p q : Part} (e : (t k).at p = (t j).at q) : k = j ∧ p = q := by
  by_cases z : k = j
  · subst z; exact ⟨rfl, (x.each k hk).inj p q e⟩
  · exact absurd e (x.dd k j hk hj z p q)
theorem News.out {H0 H : Hp} {n i : Nat} {t : Nat → Dk} (x : News A H0 H n i t) {k j : Nat} (hk : k < i) (hj : j < i) (p : Part) {a : Nat} (ha : a < n) : (t k).at p ≠ (t j).sr a := by
  by_cases z : k = j
  · subst z; exact (x.each k hk).out p a ha
  · exact x.im k j hk hj z p a ha
theorem News.snoc {H0 H H' : Hp} {n i : Nat} {t : Nat → Dk} {d : Dk} (x : News A H0 H n i t) (f0 : ∀ a, H a = none → H0 a = none) (s : Same H H') (y : New A H H' n d) : News A H0 H' n (i + 1) (dset t i d) := by
  have z := x.same s
  have old : ∀ k, k < i → dset t i d k = t k := fun k hk => if_neg (by omega)
  have new : dset t i d i = d := if_pos rfl
  have tr : ∀ k, k < i → ∀ p : Part, H ((t k).at p) ≠ none := fun k hk p => by
    obtain ⟨o, e⟩ := (x.each k hk).there p
    rw [e]; exact fun z => by cases z
  have ts : ∀ k, k < i → ∀ a, a < n → H ((t k).sr a) ≠ none := fun k hk a ha => by
    rw [(x.each k hk).hsr a ha]; exact fun z => by cases z
  refine ⟨fun k hk => ?_, fun k j hk hj hkj p q => ?_, fun k j hk hj hkj p a ha => ?_⟩
  · by_cases e : k = i
    · subst e
      rw [new]
      exact ⟨y.ob, y.hca, y.hsa, y.hha, y.hfa, y.hsr, fun p => f0 _ (y.new p), fun a ha => f0 _ (y.nsr a ha), y.inj, y.out⟩
    · rw [old k (by omega)]
      exact z.each k (by omega)
  · by_cases e : k = i
    · subst e
      have hj' : j < k := by omega
      rw [new, old j hj']
      exact fun c => tr j hj' q (c ▸ y.new p)
    · have hk' : k < i := by omega
      rw [old k hk']
      by_cases e' : j = i
      · subst e'
        rw [new]
        exact fun c => tr k hk' p (c ▸ y.new q)
      · rw [old j (by omega)]
        exact x.dd k j hk' (by omega) hkj p q
  · by_cases e : k = i
    · subst e
      have hj' : j < k := by omega
      rw [new, old j hj']
      exact fun c => ts j hj' a ha (c ▸ y.new p)
    · have hk' : k < i := by omega
      rw [old k hk']
      by_cases e' : j = i
      · subst e'
        rw [new]
        exact fun c => tr k hk' p (c ▸ y.nsr a ha)
      · rw [old j (by omega)]
        exact x.im k j hk' (by omega) hkj p a ha
theorem New.away {H0 H : Hp} {n : Nat} {d : Dk} {L : Addr} {o : HO} (x : New A H0 H n d) (hL : H0 L ≠ none) : New A H0 (upd H L o) n d := by
  have f : ∀ {a : Addr}, H0 a = none → a ≠ L := fun e z => hL (z ▸ e)
  refine ⟨?_, ?_, ?_, ?_, ?_, fun j hj => ?_, x.new, x.nsr, x.inj, x.out⟩
  · obtain ⟨dx, e⟩ := x.ob
    exact ⟨dx, by rw [upd_ne (f (a := d.da) (x.new .da))]; exact e⟩
  · rw [upd_ne (f (a := d.ca) (x.new .ca))]; exact x.hca
  · rw [upd_ne (f (a := d.sa) (x.new .sa))]; exact x.hsa
  · rw [upd_ne (f (a := d.ha) (x.new .ha))]; exact x.hha
  · rw [upd_ne (f (a := d.fa) (x.new .fa))]; exact x.hfa
  · rw [upd_ne (f (x.nsr j hj))]; exact x.hsr j hj
theorem News.away {H0 H : Hp} {n i : Nat} {t : Nat → Dk} {L : Addr} {o : HO} (x : News A H0 H n i t) (hL : H0 L ≠ none) : News A H0 (upd H L o) n i t := ⟨fun k hk => (x.each k hk).away hL, x.dd, x.im⟩
/-- the cells of a new house -/
def cells0 (p L dl lt : Addr) (t : Nat → Dk) (fr : Addr → Prop) : Cells := ⟨p, L, dl, lt, fun k => (t k).da, fun k => (t k).ca, fun k => (t k).sa, fun k => (t k).ha, fun k => (t k).fa, fun k => (t k).sr, fun _ => 0, fun _ => 0, fun _ => 0, fun _ => 0, fr⟩
theorem cells0_part {p L dl lt : Addr} {t : Nat → Dk} {fr : Addr → Prop} {n : Nat} (s : Slot) (hs : s.In n) : (cells0 p L dl lt t fr).sl s = p ∧ s = .hs ∨ (cells0 p L dl lt t fr).sl s = dl ∧ s = .dl ∨ (cells0 p L dl lt t fr).sl s = lt ∧ s = .lt ∨ ∃ k q, k < n ∧ (cells0 p L dl lt t fr).sl s = (t k).at q ∧ s = (match q with | .da => .da k | .ca => .ca k | .sa => .sa k | .ha => .ha k | .fa => .fa k) := by
  cases s with
  | hs => exact .inl ⟨rfl, rfl⟩
  | dl => exact .inr (.inl ⟨rfl, rfl⟩)
  | lt => exact .inr (.inr (.inl ⟨rfl, rfl⟩))
  | da k => exact .inr (.inr (.inr ⟨k, .da, hs, rfl, rfl⟩))
  | ca k => exact .inr (.inr (.inr ⟨k, .ca, hs, rfl, rfl⟩))
  | sa k => exact .inr (.inr (.inr ⟨k, .sa, hs, rfl, rfl⟩))
  | ha k => exact .inr (.inr (.inr ⟨k, .ha, hs, rfl, rfl⟩))
  | fa k => exact .inr (.inr (.inr ⟨k, .fa, hs, rfl, rfl⟩))
def sp_House_start (A : Ad) : Sp := fun vs H Q _ => ∃ (p dx : Addr) (fs : List (Str × V)) (n : Nat) (fr : Addr → Prop), vs = [.ref p, .int (n : Int)] ∧ H p = some (.ins A.House dx fs) ∧ (fs = [] ∨ ∃ v1 v2 v3 v4, fs = fs_House v1 v2 v3 v4) ∧ 1 ≤ n ∧ n ≤ 6 ∧ (∀ b, fr b → b ≠ p ∧ H b ≠ none) ∧
  ∀ (H' : Hp) (c : Cells), c.hs = p → c.fr = fr → HouseAt A c H' (Sq36.new n) → (∀ b o, b ≠ p → H b = some o → H' b = some o ∧ ¬ c.M0 n b) → Q .non H'
theorem put4 {fs : List (Str × V)} (h : fs = [] ∨ ∃ v1 v2 v3 v4, fs = fs_House v1 v2 v3 v4) (a b c d : V) : putF "next_thing" d (putF "letters" c (putF "deeds" b (putF "desks" a fs))) = fs_House a b c d := by
  rcases h with rfl | ⟨v1, v2, v3, v4, rfl⟩
  · rfl
  · rw [pt_House_desks, pt_House_deeds, pt_House_letters, pt_House_next_thing]
theorem few4 {fs : List (Str × V)} (h : fs = [] ∨ ∃ v1 v2 v3 v4, fs = fs_House v1 v2 v3 v4) : fs.length ≤ 4 := by
  rcases h with rfl | ⟨v1, v2, v3, v4, rfl⟩
  · exact Nat.zero_le _
  · exact Nat.le_refl _
theorem putF_len (f : Str) (v : V) : ∀ fs : List (Str × V), (putF f v fs).length ≤ fs.length + 1
  | [] => Nat.le_refl _
  | (g, x) :: r => by
    by_cases e : g = f
    · subst e; rw [put_here]; exact Nat.le_succ _
    · rw [put_past e]
      exact Nat.succ_le_succ (putF_len f v r)
set_option maxHeartbeats 8000000 in
theorem ok_House_start (T : Txt K mg A D) : FnOk P w K mg base CX0 3 A.f_House_start D.d_House_start ["self", "desks"] (sp_House_start A) := by
  refine T.f_House_start.ok sc_House_start (fun vs H Q E h => ?_) (fun cdv ar outer s H vs Q E hr h => have hu := hu_of hr; ⟨_, (pss_cons (ps_fld (pv 0) (pe_lc (own := [("number", 2)]) (g := gName 2) (tt := tYes) (by rfl) sc_House_start.nd (pi_range1 (by rfl) T.n_range (pa_cons (pv 1) pa_nil)) (blkOk_by (own := [("number", 2)]) (N := N_House_start) (sc := defScope s_House_start) (by decide +kernel)) (fun _ _ _ _ _ => pg_name (i := 2) sc_House_start.nd rfl (Or.inl rfl)) (fun _ _ _ _ _ => pts_nil) (fun _ _ _ _ _ => (by exact (pe_make T.mk_Desk (ok_Desk_init T) (by exact hr.mono (by decide)) (by rfl) T.c_Desk T.b_Desk_init .nil pass0 (pa_cons (pv 1) pa_nil))))) (by rfl))
    (pss_cons (ps_fld (pv 0) (pe_lst pa_nil) (by rfl))
    (pss_cons (ps_fld (pv 0) (pe_lst pa_nil) (by rfl))
    (pss_one (ps_fld (pv 0) (pe_glob (v := .int (2)) (by rfl) (Classical.choose_spec T.g_FIRST_MADE) ⟨_, rfl⟩) (by rfl)))))), ?_⟩)
  · obtain ⟨p, dx, fs, n, fr, rfl, _⟩ := h; rfl
  · obtain ⟨p, dx, fs, n, fr, rfl, hp, hfs, h1, h6, hfr, q⟩ := h
    have l0 := few4 hfs
    refine ⟨_, rfl, (n : Int), rfl, by omega, by omega, fun L nL => ?_⟩
    refine lc_range (lo := 0) (n := n) (fun i H' => ∃ t : Nat → Dk, Same H H' ∧ H' L = some (.lst (refs (fun k => (t k).da) i)) ∧ News A (upd H L (.lst [])) H' n i t) ⟨fun _ => ⟨0, 0, 0, 0, 0, fun _ => 0⟩, same_upd nL, upd_same, ⟨fun k hk => absurd hk (Nat.not_lt_zero _), fun k j hk => absurd hk (Nat.not_lt_zero _), fun k j hk => absurd hk (Nat.not_lt_zero _)⟩⟩ ?_ ?_
    · rintro i H' hi ⟨t, s4, hL, nw⟩
      refine ⟨rfl, ?_⟩
      unfold tYes
      dsimp only
      rw [if_pos rfl]
      refine ⟨_, rfl, ?_⟩
      intro x dx' nx nd ne
      have H0L : upd H L (.lst []) L ≠ none := by rw [upd_same]; exact fun z => by cases z
      refine ⟨x, dx', H', n, rfl, rfl, nx, nd, ne, h1, h6, fun H5 d ed s5 y => ⟨rfl, _, s5 _ _ hL, (by rw [refs_len]; exact small_of (by omega)), dset t i d, same_upd2 (s4.trans s5) nL, ?_, ?_⟩⟩
      · have ex : refs (fun k => (t k).da) i ++ [V.ref ((fun k => (dset t i d k).da) i)] = refs (fun k => (dset t i d k).da) (i + 1) := refs_snoc (f := fun k => (t k).da) (g := fun k => (dset t i d k).da) (n := i) fun j hj => by
          show (if j = i then d else t j).da = (t j).da
          rw [if_neg (Nat.ne_of_lt hj)]
        have en : (fun k => (dset t i d k).da) i = x := by
          show (if i = i then d else t i).da = x
          rw [if_pos rfl, ed]
        rw [en] at ex
        rw [upd_same, ← ex]
      · refine (nw.snoc (fun a ha => ?_) s5 y).away H0L
        by_cases z : a = L
        · rw [z, hL] at ha; cases ha
        · rw [upd_ne z]; exact s4.free ha
    · rintro H' ⟨t, s4, hL, nw⟩
      have hp' := s4 _ _ hp
      have pL : p ≠ L := fun z => by rw [z, nL] at hp; cases hp
      have H0L : upd H L (.lst []) L ≠ none := by rw [upd_same]; exact fun z => by cases z
      have H0p : upd H L (.lst []) p ≠ none := by rw [upd_ne pL, hp]; exact fun z => by cases z
      -- self.desks, self.deeds, self.letters, self.next_thing
      refine ⟨_, rfl, p, A.House, dx, fs, rfl, hp', T.cl_House, T.na_House_desks, by omega, ?_⟩
      have e1 : upd H' p (.ins A.House dx (putF "desks" (.ref L) fs)) p = some (.ins A.House dx (putF "desks" (.ref L) fs)) := upd_same
      have o1 : ∀ b, b ≠ p → upd H' p (.ins A.House dx (putF "desks" (.ref L) fs)) b = H' b := fun b hb => upd_ne hb
      have nw1 := nw.away (L := p) (o := .ins A.House dx (putF "desks" (.ref L) fs)) H0p
      generalize upd H' p (.ins A.House dx (putF "desks" (.ref L) fs)) = H1 at e1 o1 nw1 ⊢
      refine ⟨Nat.zero_le _, fun dl ndl => ⟨_, rfl, p, A.House, dx, _, rfl, same_upd ndl _ _ e1, T.cl_House, T.na_House_deeds, Nat.lt_of_le_of_lt (putF_len ..) (by omega), ?_⟩⟩
      have dlp : dl ≠ p := fun z => by rw [z, e1] at ndl; cases ndl
      have e2 : upd (upd H1 dl (.lst [])) p (.ins A.House dx (putF "deeds" (.ref dl) (putF "desks" (.ref L) fs))) p = some (.ins A.House dx (putF "deeds" (.ref dl) (putF "desks" (.ref L) fs))) := upd_same
      have o2 : ∀ b, b ≠ p → upd (upd H1 dl (.lst [])) p (.ins A.House dx (putF "deeds" (.ref dl) (putF "desks" (.ref L) fs))) b = upd H1 dl (.lst []) b := fun b hb => upd_ne hb
      have nw2 := (nw1.same (same_upd (o := .lst []) ndl)).away (L := p) (o := .ins A.House dx (putF "deeds" (.ref dl) (putF "desks" (.ref L) fs))) H0p
      generalize upd (upd H1 dl (.lst [])) p (.ins A.House dx (putF "deeds" (.ref dl) (putF "desks" (.ref L) fs))) = H2 at e2 o2 nw2 ⊢
      have d2 : H2 dl = some (.lst []) := by rw [o2 _ dlp, upd_same]
      refine ⟨Nat.zero_le _, fun lt nlt => ⟨_, rfl, p, A.House, dx, _, rfl, same_upd nlt _ _ e2, T.cl_House, T.na_House_letters, Nat.lt_of_le_of_lt (putF_len ..) (Nat.lt_of_le_of_lt (Nat.succ_le_succ (putF_len ..)) (by omega)), ?_⟩⟩
      have ltp : lt ≠ p := fun z => by rw [z, e2] at nlt; cases nlt
      have ltd : lt ≠ dl := fun z => by rw [z, d2] at nlt; cases nlt
      have e3 : upd (upd H2 lt (.lst [])) p (.ins A.House dx (putF "letters" (.ref lt) (putF "deeds" (.ref dl) (putF "desks" (.ref L) fs)))) p = some (.ins A.House dx (putF "letters" (.ref lt) (putF "deeds" (.ref dl) (putF "desks" (.ref L) fs)))) := upd_same
      have o3 : ∀ b, b ≠ p → upd (upd H2 lt (.lst [])) p (.ins A.House dx (putF "letters" (.ref lt) (putF "deeds" (.ref dl) (putF "desks" (.ref L) fs)))) b = upd H2 lt (.lst []) b := fun b hb => upd_ne hb
      have nw3 := (nw2.same (same_upd (o := .lst []) nlt)).away (L := p) (o := .ins A.House dx (putF "letters" (.ref lt) (putF "deeds" (.ref dl) (putF "desks" (.ref L) fs)))) H0p
      generalize upd (upd H2 lt (.lst [])) p (.ins A.House dx (putF "letters" (.ref lt) (putF "deeds" (.ref dl) (putF "desks" (.ref L) fs)))) = H3 at e3 o3 nw3 ⊢
      refine ⟨_, rfl, p, A.House, dx, _, rfl, e3, T.cl_House, T.na_House_next_thing, Nat.lt_of_le_of_lt (putF_len ..) (Nat.lt_of_le_of_lt (Nat.succ_le_succ (putF_len ..)) (Nat.lt_of_le_of_lt (Nat.succ_le_succ (Nat.succ_le_succ (putF_len ..))) (by omega))), ?_⟩
      rw [put4 hfs]
      have e4 : upd H3 p (.ins A.House dx (fs_House (.ref L) (.ref dl) (.ref lt) (.int 2))) p = some (.ins A.House dx (fs_House (.ref L) (.ref dl) (.ref lt) (.int 2))) := upd_same
      have o4 : ∀ b, b ≠ p → upd H3 p (.ins A.House dx (fs_House (.ref L) (.ref dl) (.ref lt) (.int 2))) b = H3 b := fun b hb => upd_ne hb
      have nw4 := nw3.away (L := p) (o := .ins A.House dx (fs_House (.ref L) (.ref dl) (.ref lt) (.int 2))) H0p
      generalize upd H3 p (.ins A.House dx (fs_House (.ref L) (.ref dl) (.ref lt) (.int 2))) = H4 at e4 o4 nw4 ⊢
      -- what stood stands
      have up1 : ∀ b o, b ≠ p → H' b = some o → H1 b = some o := fun b o hb e => by rw [o1 b hb]; exact e
      have up2 : ∀ b o, b ≠ p → H1 b = some o → H2 b = some o := fun b o hb e => by rw [o2 b hb]; exact same_upd ndl _ _ e
      have up3 : ∀ b o, b ≠ p → H2 b = some o → H3 b = some o := fun b o hb e => by rw [o3 b hb]; exact same_upd nlt _ _ e
      have up4 : ∀ b o, b ≠ p → H3 b = some o → H4 b = some o := fun b o hb e => by rw [o4 b hb]; exact e
      have upA : ∀ b o, b ≠ p → H' b = some o → H4 b = some o := fun b o hb e => up4 _ _ hb (up3 _ _ hb (up2 _ _ hb (up1 _ _ hb e)))
      have dlF : ∀ {b o}, b ≠ p → H' b = some o → b ≠ dl := fun {b o} hb e z => by
        have := up1 b o hb e
        rw [z, ndl] at this; cases this
      have ltF : ∀ {b o}, b ≠ p → H' b = some o → b ≠ lt := fun {b o} hb e z => by
        have := up2 b o hb (up1 b o hb e)
        rw [z, nlt] at this; cases this
      have nwP : ∀ {a : Addr}, upd H L (.lst []) a = none → a ≠ p ∧ a ≠ L := fun e => ⟨fun z => H0p (z ▸ e), fun z => H0L (z ▸ e)⟩
      have notM : ∀ {b : Addr} {o : HO}, b ≠ p → H' b = some o → (∀ k, k < n → ∀ q : Part, b ≠ (t k).at q) → ¬ (cells0 p L dl lt t fr).M0 n b := fun {b o} hb e hk m => by
        obtain ⟨s', hs', z⟩ := m
        rcases cells0_part (p := p) (L := L) (dl := dl) (lt := lt) (t := t) (fr := fr) s' hs' with ⟨y, _⟩ | ⟨y, _⟩ | ⟨y, _⟩ | ⟨k, q, hk', y, _⟩
        · exact hb (z.trans y)
        · exact dlF hb e (z.trans y)
        · exact ltF hb e (z.trans y)
        · exact hk k hk' q (z.trans y)
      have frN : ∀ {a : Addr}, upd H L (.lst []) a = none → H a = none := fun {a} e => by
        have := (nwP e).2
        rw [upd_ne this] at e
        exact e
      have dn : ∀ k, k < n → ∀ q : Part, (t k).at q ≠ p ∧ (t k).at q ≠ dl ∧ (t k).at q ≠ lt := fun k hk q => by
        obtain ⟨o, e⟩ := (nw.each k hk).there q
        have f := (nwP ((nw.each k hk).new q)).1
        exact ⟨f, dlF f e, ltF f e⟩
      refine q H4 (cells0 p L dl lt t fr) rfl rfl ⟨ok_new h1 h6, ⟨dx, e4⟩, upA _ _ (Ne.symm pL) hL, ?_, ?_, (fun d hd => by cases hd), ?_, fun k hk => ?_, (fun i m hm => by cases hm), ?_, ?_, late_new n, fun k hk => ?_⟩ fun b o hb e => ⟨upA _ _ hb (s4 _ _ e), ?_⟩
      · exact fun m => m.elim (notM (Ne.symm pL) hL fun k hk r z => (nwP ((nw.each k hk).new r)).2 z.symm) fun f => (hfr _ f).2 nL
      · exact up4 _ _ dlp (up3 _ _ dlp d2)
      · show H4 lt = some (.lst [])
        rw [o4 _ ltp, o3 _ ltp, upd_same]
      · have hk' : k < n := hk
        rw [desk_new hk']
        have e := nw4.each k hk'
        have e0 := nw.each k hk'
        refine ⟨e.ob, e.hca, e.hsa, e.hha, fun j hj => ?_, fun j hj => ?_⟩
        · have hj' : j < n := hj
          have := e.hsr j hj'
          show H4 ((t k).sr j) = some (.lst (nums (((List.replicate n (List.replicate n 0))[j]?).getD [])))
          rw [List.getElem?_replicate, if_pos hj']
          exact this
        · have hj' : j < n := hj
          exact fun m => m.elim (notM (nwP (e0.nsr j hj')).1 (e0.hsr j hj') fun i hi r z => nw.out hi hk' r hj' z.symm) fun f => (hfr _ f).2 (frN (e0.nsr j hj'))
      · refine ⟨fun s1 s2 hs1 hs2 e => ?_, fun b fb => ?_⟩
        · rcases cells0_part (p := p) (L := L) (dl := dl) (lt := lt) (t := t) (fr := fr) s1 hs1 with ⟨y, w1⟩ | ⟨y, w1⟩ | ⟨y, w1⟩ | ⟨k, r, hk', y, w1⟩ <;>
            rcases cells0_part (p := p) (L := L) (dl := dl) (lt := lt) (t := t) (fr := fr) s2 hs2 with ⟨y', w2⟩ | ⟨y', w2⟩ | ⟨y', w2⟩ | ⟨k', r', hk'', y', w2⟩ <;> have g := y.symm.trans (e.trans y')
          · rw [w1, w2]
          · exact absurd g.symm dlp
          · exact absurd g.symm ltp
          · exact absurd g.symm (dn k' hk'' r').1
          · exact absurd g dlp
          · rw [w1, w2]
          · exact absurd g.symm ltd
          · exact absurd g.symm (dn k' hk'' r').2.1
          · exact absurd g ltp
          · exact absurd g ltd
          · rw [w1, w2]
          · exact absurd g.symm (dn k' hk'' r').2.2
          · exact absurd g (dn k hk' r).1
          · exact absurd g (dn k hk' r).2.1
          · exact absurd g (dn k hk' r).2.2
          · obtain ⟨g1, g2⟩ := nw.inj hk' hk'' g
            subst g1
            subst g2
            rw [w1, w2]
        · cases y : H b with
          | none => exact absurd y (hfr b fb).2
          | some o => exact notM (hfr b fb).1 (s4 _ _ y) fun k hk r z => by rw [z, frN ((nw.each k hk).new r)] at y; cases y
      · intro b fb z
        cases y : H b with
        | none => exact (hfr b fb).2 y
        | some o => rw [upA _ _ (hfr b fb).1 (s4 _ _ y)] at z; cases z
      · have hk' : k < n := hk
        have g : ((Sq36.new n).had k).take ((Sq36.new n).desk k).gone = [] := by rw [desk_new hk']; rfl
        rw [g]
        exact ⟨[], (nw4.each k hk').hfa, rfl, fun x => rfl⟩
      · refine notM hb (s4 _ _ e) fun k hk r y => ?_
        have z := (nw.each k hk).new r
        have w1 := (nwP z).2
        rw [upd_ne w1, ← y, e] at z
        cases z
def sp_House_init (A : Ad) : Sp := fun vs H Q _ => ∃ (p dx : Addr) (H0 : Hp) (n : Nat), vs = [.ref p, .int (n : Int)] ∧ H = made H0 p dx A.House ∧ H0 p = none ∧ H0 dx = none ∧ dx ≠ p ∧ 1 ≤ n ∧ n ≤ 6 ∧
  ∀ (H' : Hp) (c : Cells), c.hs = p → c.fr = (fun _ => False) → HouseAt A c H' (Sq36.new n) → (∀ b o, H0 b = some o → H' b = some o ∧ ¬ c.M0 n b) → Q .non H'
theorem ok_House_init (T : Txt K mg A D) : FnOk P w K mg base CX0 4 A.f_House_init D.d_House_init ["self", "desks"] (sp_House_init A) := by
  refine T.f_House_init.ok sc_House_init (fun vs H Q E h => ?_) (fun cdv ar outer s H vs Q E hr h => have hu := hu_of hr; ⟨_, (pss_one (ps_expr (pe_meth (pv 0) T.cl_House T.mt_House_start (ok_House_start T) (by exact hr.mono (by decide)) T.b_House_start .nil pass0 (pa_cons (pv 1) pa_nil)))), ?_⟩)
  · obtain ⟨p, dx, H0, n, rfl, _⟩ := h; rfl
  · obtain ⟨p, dx, H0, n, rfl, rfl, np, nd, ne, h1, h6, q⟩ := h
    refine ⟨_, rfl, p, dx, [], rfl, upd_same, rfl, _, rfl, p, dx, [], n, (fun _ => False), rfl, upd_same, .inl rfl, h1, h6, (fun b z => z.elim), fun H' c e e' x f => q H' c e e' x fun b o hb => f b o (ne_of_none hb np) (made_same np nd _ _ hb)⟩
def sp_begin (A : Ad) : Sp := fun vs H Q _ => ∃ (c : Cells) (h : Sq36.House) (n : Nat), vs = [.ref c.hs, .int (n : Int)] ∧ HouseAt A c H h ∧ Res A c h H (h.step (.begin_ n)) Q
theorem ok_begin (T : Txt K mg A D) : FnOk P w K mg base CX0 4 A.f_begin D.d_begin ["house", "desks"] (sp_begin A) := by
  refine T.f_begin.ok sc_begin (fun vs H Q E h => ?_) (fun cdv ar outer s H vs Q E hr h => have hu := hu_of hr; ⟨_, (pss_cons (ps_if (PW.pt (pw_or (pt_cmpR op_lt (pv 1) pe_int (nomark _)) (pw_or1 (pt_cmpR op_gt (pv 1) (pe_glob (v := .int (6)) (by rfl) (Classical.choose_spec T.g_MOST_DESKS) ⟨_, rfl⟩) (nomark _)))))
      (pss_one (ps_ret (pe_lst (pa_cons (pe_glob (v := .int (-1)) (by rfl) (Classical.choose_spec T.g_WRONG) ⟨_, rfl⟩) pa_nil))))
      pss_nil)
    (pss_cons (ps_expr (pe_meth (pv 0) T.cl_House T.mt_House_start (ok_House_start T) (by exact hr.mono (by decide)) T.b_House_start .nil pass0 (pa_cons (pv 1) pa_nil)))
    (pss_one (ps_ret (pe_lst (pa_cons pe_int pa_nil)))))), ?_⟩)
  · obtain ⟨c, h, n, rfl, _⟩ := h; rfl
  · obtain ⟨c, h, n, rfl, x, res⟩ := h
    have st : h.step (.begin_ n) = if n = 0 ∨ Sq36.HANDS < n then (h, Sq36.says (-1)) else (Sq36.new n, Sq36.says 0) := rfl
    have g1 : decide ((n : Int) < 1) = decide (n < 1) := dec_lt n 1
    have g2 : decide ((6 : Int) < (n : Int)) = decide (6 < n) := dec_lt 6 n
    refine ⟨_, rfl, _, _, rfl, rfl, _, rfl, ?_⟩
    by_cases c1 : n < 1
    · rw [decide_eq_true c1] at g1
      exact if_true' g1 (iteT (refuse x (Same.refl _) res (by rw [st, if_pos (.inl (by omega))])))
    · rw [decide_eq_false c1] at g1
      refine if_false' g1 ⟨_, rfl, _, _, rfl, rfl, _, rfl, ?_⟩
      by_cases c2 : 6 < n
      · rw [decide_eq_true c2] at g2
        exact if_true' g2 (refuse x (Same.refl _) res (by rw [st, if_pos (.inr c2)]))
      · rw [decide_eq_false c2] at g2
        have c3 : ¬ (n = 0 ∨ Sq36.HANDS < n) := fun z => z.elim (fun q => by omega) fun q => c2 q
        rw [st, if_neg c3] at res
        obtain ⟨dx, e⟩ := x.ob
        refine if_false' g2 ⟨_, rfl, c.hs, dx, _, rfl, e, ?_, _, rfl, c.hs, dx, _, n, c.fr, rfl, e, .inr ⟨_, _, _, _, rfl⟩, by omega, by omega, (fun b fb => ⟨fun z => x.apart.fr b fb (by rw [z]; exact c.inM .hs trivial), x.frt b fb⟩), fun H' c' ec ef x' f => ⟨by show 1 ≤ sizeLine; decide, fun p np => ?_⟩⟩
        · exact (lk_past (by decide +kernel)).trans ((lk_past (by decide +kernel)).trans ((lk_past (by decide +kernel)).trans ((lk_past (by decide +kernel)).trans rfl)))
        · refine res _ c' p ec ef (x'.same (same_upd np)) (fun b o nb eb => ?_) ?_ upd_same
          · have hb : b ≠ c.hs := fun z => nb (by rw [z]; exact c.inM .hs trivial)
            exact ⟨same_upd np _ _ (f b o hb eb).1, (f b o hb eb).2⟩
          · cases z : H p with
            | none => rfl
            | some o =>
              exfalso
              by_cases hb : p = c.hs
              · obtain ⟨d, e'⟩ := x'.ob
                rw [ec] at e'
                rw [hb, e'] at np; cases np
              · rw [(f p o hb z).1] at np; cases np
end
end Ho
end

section
set_option Elab.async false
set_option maxRecDepth 100000
set_option maxHeartbeats 4000000
/-! has_value, ask_tree, ask_row, ask_line, ask_values, ask_amounts, ask_find, ask_same -/
namespace Ho
open PySem PySem.W PyProof.Rows L2
theorem ints_nums (l : List Nat) : (Sq36.ints l).map V.int = nums l := by
  unfold Sq36.ints nums
  rw [List.map_map]
  rfl
theorem val_any (l : List Sq36.Deed) (x f v : Nat) : ((Sq36.values l x f).any fun y => y.2 == v) = (((tellings (Sq36.held l) x f).map fun d => (told? d).getD 0).contains v) := by
  rw [values_about]
  unfold tellings
  rw [List.any_map, List.contains_eq_any_beq, List.any_map]
  congr 1
  funext d
  show ((told? d).getD 0 == v) = (v == (told? d).getD 0)
  exact Bool.beq_comm
theorem vals_pairs (l : List Sq36.Deed) (x f : Nat) : (Sq36.values l x f).map (fun y => (y.1.id, y.2)) = (tellings (Sq36.held l) x f).map fun d => (d.id, (told? d).getD 0) := by
  rw [values_about, List.map_map]
  rfl
section
variable {P : Program} {w : World} {K : PySem.W.Frag} {mg : Str → Option Value} {base : Heap} {A : Ad} {D : Fd}
theorem answer {c : Cells} {h : Sq36.House} {H H4 : Hp} {Q : VK} {o : Sq36.Out} {p : Addr} (x : HouseAt A c H h) (s : Same H H4) (res : Res A c h H (h, o) Q) (np : H p = none) (hp : H4 p = some (.lst (outs o))) : Q (.ref p) H4 :=
  res H4 c p rfl rfl (x.same s) (fun b u nb e => ⟨s _ _ e, nb⟩) np hp
theorem tell_val (T : Txt K mg A D) {H : Hp} {r : Addr} {d : Sq36.Deed} (h : ActAt A H r d.act) (ht : (told? d).isSome = true) {R : V → Prop} (q : R (.int (((told? d).getD 0 : Nat) : Int))) : ∃ a' C dx fs v, V.ref r = .ref a' ∧ H a' = some (.ins C dx fs) ∧ Cls K C ∧ NoAttr K C "value" ∧ fs.lookup ("value" : Str) = some v ∧ R v := by
  unfold told? at ht q
  cases e : d.act <;> rw [e] at h ht q
  · cases ht
  · exact obTelling.value T h q
  · cases ht
  · cases ht
  · cases ht
  · cases ht
theorem tellings_told {l : List Sq36.Deed} {x f : Nat} {d : Sq36.Deed} (h : d ∈ tellings l x f) : d ∈ l ∧ (told? d).isSome = true := by
  have m := List.mem_filter.mp h
  rw [Bool.and_eq_true] at m
  exact ⟨(List.mem_filter.mp m.1).1, m.2.1⟩
theorem tellings_len (l : List Sq36.Deed) (x f : Nat) : (tellings l x f).length ≤ l.length := Nat.le_trans (List.length_filter_le _ _) (List.length_filter_le _ _)
def sp_has_value (A : Ad) : Sp := fun vs H Q _ => ∃ (a : Addr) (x f v : Nat) (l : List Sq36.Deed) (ad : Nat → Addr) (M : Addr → Prop), vs = [.ref a, .int (x : Int), .int (f : Int), .int (v : Int)] ∧ H a = some (.lst (rfs ad l)) ∧ Dd A M ad H l ∧ Sees l ∧ l.length ≤ 100 ∧
  ∀ (H' : Hp), Same H H' → Q (.bl (((tellings l x f).map fun d => (told? d).getD 0).contains v)) H'
theorem ok_has_value (T : Txt K mg A D) : FnOk P w K mg base CX0 4 A.f_has_value D.d_has_value ["held", "thing", "field", "value"] (sp_has_value A) := by
  refine T.f_has_value.ok sc_has_value (fun vs H Q E h => ?_) (fun cdv ar outer s H vs Q E hr h => have hu := hu_of hr; ⟨_, (pss_one (ps_ret (pe_cmpR op_in_seq (pv 3) (pe_lc (own := [("deed", 4)]) (g := gName 4) (tt := tYes) (by rfl) sc_has_value.nd (pi_list (pe_call (ok_tellings_of T) (by exact hr.mono (by decide)) (by rfl) T.m_tellings_of T.f_tellings_of.kp T.b_tellings_of .nil pass0 (pa_cons (pv 0) (pa_cons (pv 1) (pa_cons (pv 2) pa_nil))))) (blkOk_by (own := [("deed", 4)]) (N := N_has_value) (sc := defScope s_has_value) (by decide +kernel)) (fun _ _ _ _ _ => pg_name (i := 4) sc_has_value.nd rfl (Or.inl rfl)) (fun _ _ _ _ _ => pts_nil) (fun _ _ _ _ _ => (by exact (pe_fldK (K := K) (by rfl) (pe_fldK (K := K) (by rfl) (pv 4) (by rfl)) (by rfl))))) (by rfl)))), ?_⟩)
  · obtain ⟨a, x, f, v, l, ad, M, rfl, _⟩ := h; rfl
  · obtain ⟨a, x, f, v, l, ad, M, rfl, ha, dd, sees, len, k⟩ := h
    refine ⟨_, rfl, _, rfl, _, rfl, _, rfl, a, x, f, l, ad, M, rfl, ha, dd, sees, len, fun H1 q s1 n1 hq => ⟨q, rfl, ⟨_, .of hq⟩, fun p np => ?_⟩⟩
    have tl := tellings_len l x f
    refine lc_pick (K := K) (a := q) (l := tellings l x f) (f := rf ad) (i := 4) (fun _ => true) (fun d => V.int (((told? d).getD 0 : Nat) : Int)) np (.of hq) (by omega) (fun d hd H6 R s6 kR => kR H6 (Same.refl _)) (fun d hd _ H6 R s6 kR => ?_) fun H6 s6 hp => ?_
    · obtain ⟨hm, ht⟩ := tellings_told hd
      obtain ⟨sw, r, h1⟩ := (dd.same (s1.trans s6)) d hm
      exact ⟨_, rfl, h1.ob.act T (tell_val T h1.act ht (kR H6 (Same.refl _)))⟩
    · have e : H6 p = some (.lst (nums ((tellings l x f).map fun d => (told? d).getD 0))) := by
        rw [hp, filter_yes]
        unfold nums
        rw [List.map_map]
        rfl
      refine ⟨p, _, rfl, .inl (.of e), rfl, nums_flat _, ?_⟩
      rw [inV_nums]
      exact k H6 (s1.trans s6)
/-! ### the questions -/
theorem ref_no {h : Sq36.House} {k y : Nat} (hk : ¬ k < h.hands) : refusal0 h k y = -2 := by unfold refusal0; rw [if_pos (by omega)]
theorem ref_not {h : Sq36.House} {k y : Nat} (hk : k < h.hands) (ht : Sq28.there (h.tree k) y = false) : refusal0 h k y = -3 := by unfold refusal0; rw [if_neg (by omega), if_pos ht]
theorem ref_yes {h : Sq36.House} {k y : Nat} (hk : k < h.hands) (ht : Sq28.there (h.tree k) y = true) : refusal0 h k y = 0 := by unfold refusal0; rw [if_neg (by omega), if_neg (by rw [ht]; exact Bool.noConfusion)]
theorem within_len {l : List Sq36.Deed} (wf : Wf l) (x : Nat) : (Sq36.within l x).length ≤ 100 := by
  rw [within_sub]
  have h1 := sub_len wf 1 x
  have h2 := tree_len wf
  omega
theorem sees_held {h : Sq36.House} (o : Ok h) (k : Nat) : Sees (Sq36.held (h.had k)) := fun d hd e he => by
  have m1 := (o.mem_had.mp (held_sub hd)).1
  have m2 := (o.mem_had.mp (held_sub he)).1
  rw [o.deeds.after d m1]
  exact o.deeds.hand e m2
theorem held_len {l : List Sq36.Deed} (wf : Wf l) : (Sq36.held l).length ≤ 100 := Nat.le_trans (List.length_filter_le _ _) wf.len
theorem held_dd {c : Cells} {H : Hp} {h : Sq36.House} (x : HouseAt A c H h) (k : Nat) : Dd A (c.M h.hands) c.ad H (Sq36.held (h.had k)) := (had_dd x k).sub fun d hd => held_sub hd
def sp_ask_tree (A : Ad) : Sp := fun vs H Q _ => ∃ (c : Cells) (h : Sq36.House) (k y : Nat), vs = [.ref c.hs, .int (k : Int), .int (y : Int)] ∧ HouseAt A c H h ∧ Res A c h H (h.step (.tree k y)) Q
theorem ok_ask_tree (T : Txt K mg A D) : FnOk P w K mg base CX0 8 A.f_ask_tree D.d_ask_tree ["house", "desk", "thing"] (sp_ask_tree A) := by
  refine T.f_ask_tree.ok sc_ask_tree (fun vs H Q E h => ?_) (fun cdv ar outer s H vs Q E hr h => have hu := hu_of hr; ⟨_, (pss_cons (ps_set (i := 3) sc_ask_tree.nd rfl (Or.inl rfl) (pe_call (ok_refusal_about T) (by exact hr.mono (by decide)) (by rfl) T.m_refusal_about T.f_refusal_about.kp T.b_refusal_about .nil pass0 (pa_cons (pv 0) (pa_cons (pv 1) (pa_cons (pv 2) pa_nil)))))
    (pss_cons (ps_if (pt_cmpR op_ne (pv 3) (pe_glob (v := .int (0)) (by rfl) (Classical.choose_spec T.g_NOT_REFUSED) ⟨_, rfl⟩) (nomark _))
      (pss_one (ps_ret (pe_lst (pa_cons (pv 3) pa_nil))))
      pss_nil)
    (pss_one (ps_ret (pe_call (ok_counted_pairs T) (by exact hr.mono (by decide)) (by rfl) T.m_counted_pairs T.f_counted_pairs.kp T.b_counted_pairs .nil pass0 (pa_cons (pe_call (ok_within T) (by exact hr.mono (by decide)) (by rfl) T.m_within T.f_within.kp T.b_within .nil pass0 (pa_cons (pe_call (ok_outline_of T) (by exact hr.mono (by decide)) (by rfl) T.m_outline_of T.f_outline_of.kp T.b_outline_of .nil pass0 (pa_cons (pv 0) (pa_cons (pv 1) pa_nil))) (pa_cons (pv 2) pa_nil))) pa_nil)))))), ?_⟩)
  · obtain ⟨c, h, k, y, rfl, _⟩ := h; rfl
  · obtain ⟨c, h, k, y, rfl, x, res⟩ := h
    have st : h.step (.tree k y) = h.at_ k y fun l _ => (h, ⟨(Sq36.within l y).length, Sq36.ints ((Sq36.within l y).flatMap fun z => [z.1, z.2])⟩) := rfl
    refine ⟨_, rfl, _, rfl, _, rfl, c, h, k, y, rfl, x, fun H1 s1 => ⟨_, rfl, rfl, _, rfl, ?_⟩⟩
    have x1 := x.same s1
    by_cases hk : k < h.hands
    case neg =>
      rw [ref_no hk, not_dec' (fun q => by injection q with q; omega)]
      exact iteT ⟨_, rfl, refuse x1 s1 res (by rw [st, at_no hk])⟩
    cases ht : Sq28.there (h.tree k) y with
    | false =>
      rw [ref_not hk ht, not_dec' (fun q => by injection q with q; omega)]
      exact iteT ⟨_, rfl, refuse x1 s1 res (by rw [st, at_not hk ht])⟩
    | true =>
      rw [ref_yes hk ht, not_dec rfl]
      rw [st, at_yes hk ht] at res
      refine iteF ⟨_, rfl, _, rfl, c, h, k, rfl, x1, hk, fun H2 o dl hl pl kvs s2 _ _ _ _ ho => ⟨_, rfl, o, dl, hl, pl, y, kvs, h.had k, c.ad, _, rfl, ho, had_dd (x1.same s2) k, x.ok.wf k, fun H3 q zs s3 nq hq pr ez nz => ⟨q, zs, rfl, hq, pr, ?_, fun H4 p s4 np hp => answer x (s1.trans (s2.trans (s3.trans s4))) res ((s1.trans (s2.trans s3)).free np) ?_⟩⟩⟩
      · have := within_len (x.ok.wf k) y
        rw [← ez, List.length_map] at this
        omega
      · rw [hp, ez]
        have : zs.length = (Sq36.within (h.had k) y).length := by rw [← ez, List.length_map]
        rw [this]
        unfold outs flatPairs
        rw [List.map_cons, ints_nums]
def sp_ask_row (A : Ad) : Sp := fun vs H Q _ => ∃ (c : Cells) (h : Sq36.House) (k y : Nat), vs = [.ref c.hs, .int (k : Int), .int (y : Int)] ∧ HouseAt A c H h ∧ Res A c h H (h.step (.row k y)) Q
theorem ok_ask_row (T : Txt K mg A D) : FnOk P w K mg base CX0 8 A.f_ask_row D.d_ask_row ["house", "desk", "thing"] (sp_ask_row A) := by
  refine T.f_ask_row.ok sc_ask_row (fun vs H Q E h => ?_) (fun cdv ar outer s H vs Q E hr h => have hu := hu_of hr; ⟨_, (pss_cons (ps_set (i := 3) sc_ask_row.nd rfl (Or.inl rfl) (pe_call (ok_refusal_about T) (by exact hr.mono (by decide)) (by rfl) T.m_refusal_about T.f_refusal_about.kp T.b_refusal_about .nil pass0 (pa_cons (pv 0) (pa_cons (pv 1) (pa_cons (pv 2) pa_nil)))))
    (pss_cons (ps_if (pt_cmpR op_ne (pv 3) (pe_glob (v := .int (0)) (by rfl) (Classical.choose_spec T.g_NOT_REFUSED) ⟨_, rfl⟩) (nomark _))
      (pss_one (ps_ret (pe_lst (pa_cons (pv 3) pa_nil))))
      pss_nil)
    (pss_one (ps_ret (pe_call (ok_counted T) (by exact hr.mono (by decide)) (by rfl) T.m_counted T.f_counted.kp T.b_counted .nil pass0 (pa_cons (pe_call (ok_things_in_row T) (by exact hr.mono (by decide)) (by rfl) T.m_things_in_row T.f_things_in_row.kp T.b_things_in_row .nil pass0 (pa_cons (pe_call (ok_outline_of T) (by exact hr.mono (by decide)) (by rfl) T.m_outline_of T.f_outline_of.kp T.b_outline_of .nil pass0 (pa_cons (pv 0) (pa_cons (pv 1) pa_nil))) (pa_cons (pv 2) pa_nil))) pa_nil)))))), ?_⟩)
  · obtain ⟨c, h, k, y, rfl, _⟩ := h; rfl
  · obtain ⟨c, h, k, y, rfl, x, res⟩ := h
    have st : h.step (.row k y) = h.at_ k y fun l t => (h, ⟨(Sq36.row l t y).length, Sq36.ints ((Sq36.row l t y).map fun d => d.thing)⟩) := rfl
    refine ⟨_, rfl, _, rfl, _, rfl, c, h, k, y, rfl, x, fun H1 s1 => ⟨_, rfl, rfl, _, rfl, ?_⟩⟩
    have x1 := x.same s1
    by_cases hk : k < h.hands
    case neg =>
      rw [ref_no hk, not_dec' (fun q => by injection q with q; omega)]
      exact iteT ⟨_, rfl, refuse x1 s1 res (by rw [st, at_no hk])⟩
    cases ht : Sq28.there (h.tree k) y with
    | false =>
      rw [ref_not hk ht, not_dec' (fun q => by injection q with q; omega)]
      exact iteT ⟨_, rfl, refuse x1 s1 res (by rw [st, at_not hk ht])⟩
    | true =>
      rw [ref_yes hk ht, not_dec rfl]
      rw [st, at_yes hk ht] at res
      refine iteF ⟨_, rfl, _, rfl, c, h, k, rfl, x1, hk, fun H2 o dl hl pl kvs s2 _ _ _ _ ho => ⟨_, rfl, o, dl, hl, pl, y, kvs, h.had k, c.ad, _, rfl, ho, had_dd (x1.same s2) k, x.ok.wf k, fun H3 q s3 nq hq => ⟨q, _, rfl, hq, ?_, fun H4 p s4 np hp => answer x (s1.trans (s2.trans (s3.trans s4))) res ((s1.trans (s2.trans s3)).free np) ?_⟩⟩⟩
      · have := row_len (x.ok.wf k) y
        unfold rowThings
        rw [nums_len, List.length_map]
        omega
      · rw [hp]
        unfold outs rowThings
        rw [List.map_cons, ints_nums, nums_len, List.length_map]
        rfl
def sp_ask_line (A : Ad) : Sp := fun vs H Q _ => ∃ (c : Cells) (h : Sq36.House) (k y : Nat), vs = [.ref c.hs, .int (k : Int), .int (y : Int)] ∧ HouseAt A c H h ∧ Res A c h H (h.step (.line k y)) Q
theorem ok_ask_line (T : Txt K mg A D) : FnOk P w K mg base CX0 8 A.f_ask_line D.d_ask_line ["house", "desk", "thing"] (sp_ask_line A) := by
  refine T.f_ask_line.ok sc_ask_line (fun vs H Q E h => ?_) (fun cdv ar outer s H vs Q E hr h => have hu := hu_of hr; ⟨_, (pss_cons (ps_set (i := 3) sc_ask_line.nd rfl (Or.inl rfl) (pe_call (ok_refusal_about T) (by exact hr.mono (by decide)) (by rfl) T.m_refusal_about T.f_refusal_about.kp T.b_refusal_about .nil pass0 (pa_cons (pv 0) (pa_cons (pv 1) (pa_cons (pv 2) pa_nil)))))
    (pss_cons (ps_if (pt_cmpR op_ne (pv 3) (pe_glob (v := .int (0)) (by rfl) (Classical.choose_spec T.g_NOT_REFUSED) ⟨_, rfl⟩) (nomark _))
      (pss_one (ps_ret (pe_lst (pa_cons (pv 3) pa_nil))))
      pss_nil)
    (pss_one (ps_ret (pe_call (ok_counted T) (by exact hr.mono (by decide)) (by rfl) T.m_counted T.f_counted.kp T.b_counted .nil pass0 (pa_cons (pe_call (ok_line_up T) (by exact hr.mono (by decide)) (by rfl) T.m_line_up T.f_line_up.kp T.b_line_up .nil pass0 (pa_cons (pe_fld (pe_call (ok_outline_of T) (by exact hr.mono (by decide)) (by rfl) T.m_outline_of T.f_outline_of.kp T.b_outline_of .nil pass0 (pa_cons (pv 0) (pa_cons (pv 1) pa_nil))) (by rfl)) (pa_cons (pv 2) pa_nil))) pa_nil)))))), ?_⟩)
  · obtain ⟨c, h, k, y, rfl, _⟩ := h; rfl
  · obtain ⟨c, h, k, y, rfl, x, res⟩ := h
    have st : h.step (.line k y) = h.at_ k y fun _ t => (h, ⟨(Sq28.above t y).length, Sq36.ints (Sq28.above t y)⟩) := rfl
    refine ⟨_, rfl, _, rfl, _, rfl, c, h, k, y, rfl, x, fun H1 s1 => ⟨_, rfl, rfl, _, rfl, ?_⟩⟩
    have x1 := x.same s1
    by_cases hk : k < h.hands
    case neg =>
      rw [ref_no hk, not_dec' (fun q => by injection q with q; omega)]
      exact iteT ⟨_, rfl, refuse x1 s1 res (by rw [st, at_no hk])⟩
    cases ht : Sq28.there (h.tree k) y with
    | false =>
      rw [ref_not hk ht, not_dec' (fun q => by injection q with q; omega)]
      exact iteT ⟨_, rfl, refuse x1 s1 res (by rw [st, at_not hk ht])⟩
    | true =>
      rw [ref_yes hk ht, not_dec rfl]
      rw [st, at_yes hk ht] at res
      refine iteF ⟨_, rfl, _, rfl, c, h, k, rfl, x1, hk, fun H2 o dl hl pl kvs s2 _ _ _ _ ho => ho.ob.places T ⟨_, rfl, pl, y, c.ad, _, kvs, _, rfl, ho.tr, fun H3 q s3 nq hq => ⟨q, _, rfl, hq, ?_, fun H4 p s4 np hp => answer x (s1.trans (s2.trans (s3.trans s4))) res ((s1.trans (s2.trans s3)).free np) ?_⟩⟩⟩
      · have h1 := ((grounded_treeOf (h.had k)).above y).length_le
        have h2 := tree_len (x.ok.wf k)
        rw [nums_len]
        omega
      · rw [hp]
        unfold outs
        rw [List.map_cons, ints_nums, nums_len]
        rfl
end
end Ho
end

section
set_option Elab.async false
set_option maxRecDepth 100000
set_option maxHeartbeats 4000000
/-! ask_values, ask_amounts, ask_find, ask_same -/
namespace Ho
open PySem PySem.W PyProof.Rows L2
/-- a comprehension that makes a pair of each item -/
theorem lc_pairs {K : PySem.W.Frag} {a : Addr} {α : Type} {l : List α} {f : α → V} {i : Nat} {te : TE} {vs : List Nat} {σ : L2.St} {H1 : Hp} {D : Addr} {Qd : Hp → Prop} (y : α → Nat × Nat) (hD : H1 D = none) (hx : SqL K H1 a (l.map f)) (hl : l.length ≤ 2000)
    (he : ∀ x ∈ l, ∀ (H : Hp) (R : VK), Same H1 H → (∀ (H' : Hp) (t : Addr), Same H H' → H t = none → H' t = some (.tup [.int ((y x).1 : Int), .int ((y x).2 : Int)]) → R (.ref t) H') → te ((wipe σ vs).set i (some (f x))) H R)
    (hd : ∀ (H : Hp) (zs : Prs), Same H1 H → H D = some (.lst (pv2 zs)) → PrAt H zs → zs.map (·.2) = l.map y → Qd H) (hw : ∀ x, wipe ((wipe σ vs).set i (some x)) vs = wipe σ vs := by intro x; rfl) :
    ∃ W : Nat → Nat → Hp → Prop, (∃ m, W 0 m (upd H1 D (.lst []))) ∧ ∀ i' m H, W i' m H →
      ((Itl K a).stop i' H ∧ Qd H) ∨ ((Itl K a).go i' H ∧ ∃ Nx : Hp → Prop, (∀ H', Nx H' → ∃ m', m' < m ∧ W (i' + 1) m' H') ∧ ∀ x H', (Itl K a).yld i' H x H' → gName i x (wipe σ vs) H' fun σ2 H2 => wipe σ2 vs = wipe σ vs ∧ tYes σ2 H2 fun b H3 =>
        if b = true then te σ2 H3 fun y H4 => ∃ acc, H4 D = some (.lst acc) ∧ acc.length < sizeLine ∧ Nx (upd H4 D (.lst (acc ++ [y]))) else Nx H3) := by
  refine lc_list (K := K) (a := a) (xs := l.map f) (fun j H => Same H1 H ∧ ∃ zs : Prs, H D = some (.lst (pv2 zs)) ∧ PrAt H zs ∧ zs.map (·.2) = (l.take j).map y) ⟨same_upd hD, [], upd_same, (fun z hz => by cases hz), rfl⟩ (fun j H _ q => q.1.seq hx) (fun j v H hj q => ⟨hw v, ?_⟩) fun H q => ?_
  · obtain ⟨x, hjx, rfl⟩ : ∃ x, l[j]? = some x ∧ v = f x := by
      rw [List.getElem?_map] at hj
      cases e : l[j]? with
      | none => rw [e] at hj; cases hj
      | some d => rw [e] at hj; exact ⟨d, rfl, (Option.some.inj hj).symm⟩
    have hm := List.mem_of_getElem? hjx
    have hlt := (List.getElem?_eq_some_iff.mp hjx).1
    obtain ⟨s1, zs, h1, h2, h3⟩ := q
    unfold tYes
    dsimp only
    rw [if_pos rfl]
    refine he x hm H _ s1 fun H' t s' nt ht => ?_
    have lz : zs.length = j := by
      have := congrArg List.length h3
      rw [List.length_map, List.length_map, List.length_take] at this
      omega
    have hD' := s' _ _ h1
    have o : ∀ b, b ≠ D → upd H' D (.lst (pv2 zs ++ [V.ref t])) b = H' b := fun b hb => upd_ne hb
    refine ⟨_, hD', small_of (by unfold pv2; rw [List.length_map]; omega), same_upd2 (s1.trans s') hD, zs ++ [(t, y x)], ?_, PrAt.app ((h2.same s').away hD' o) (fun z hz => ?_), ?_⟩
    · rw [upd_same]
      unfold pv2
      rw [List.map_append]
      rfl
    · rw [List.mem_singleton.mp hz, o t (fun z => by rw [z, h1] at nt; cases nt)]
      exact ht
    · rw [List.map_append, h3, take_snoc hjx, List.map_append]
      rfl
  · obtain ⟨s1, zs, h1, h2, h3⟩ := q
    rw [List.length_map, List.take_length] at h3
    exact hd H zs s1 h1 h2 h3
section
variable {P : Program} {w : World} {K : PySem.W.Frag} {mg : Str → Option Value} {base : Heap} {A : Ad} {D : Fd}
theorem pair_flat (l : List (Nat × Nat)) : flatPairs l = nums (l.flatMap fun y => [y.1, y.2]) := rfl
theorem vals_flat (l : List Sq36.Deed) (x f : Nat) : (Sq36.values l x f).flatMap (fun y => [y.1.id, y.2]) = ((tellings (Sq36.held l) x f).map fun d => (d.id, (told? d).getD 0)).flatMap fun y => [y.1, y.2] := by
  rw [← vals_pairs, List.flatMap_map]
theorem vals_len (l : List Sq36.Deed) (x f : Nat) : (Sq36.values l x f).length = (tellings (Sq36.held l) x f).length := by
  have := congrArg List.length (vals_pairs l x f)
  rw [List.length_map, List.length_map] at this
  exact this
def sp_ask_values (A : Ad) : Sp := fun vs H Q _ => ∃ (c : Cells) (h : Sq36.House) (k y f : Nat), vs = [.ref c.hs, .int (k : Int), .int (y : Int), .int (f : Int)] ∧ HouseAt A c H h ∧ Res A c h H (h.step (.values k y f)) Q
theorem ok_ask_values (T : Txt K mg A D) : FnOk P w K mg base CX0 8 A.f_ask_values D.d_ask_values ["house", "desk", "thing", "field"] (sp_ask_values A) := by
  refine T.f_ask_values.ok sc_ask_values (fun vs H Q E h => ?_) (fun cdv ar outer s H vs Q E hr h => have hu := hu_of hr; ⟨_, (pss_cons (ps_set (i := 4) sc_ask_values.nd rfl (Or.inl rfl) (pe_call (ok_refusal_about T) (by exact hr.mono (by decide)) (by rfl) T.m_refusal_about T.f_refusal_about.kp T.b_refusal_about .nil pass0 (pa_cons (pv 0) (pa_cons (pv 1) (pa_cons (pv 2) pa_nil)))))
    (pss_cons (ps_if (pt_cmpR op_ne (pv 4) (pe_glob (v := .int (0)) (by rfl) (Classical.choose_spec T.g_NOT_REFUSED) ⟨_, rfl⟩) (nomark _))
      (pss_one (ps_ret (pe_lst (pa_cons (pv 4) pa_nil))))
      pss_nil)
    (pss_cons (ps_if (pt_cmpR op_gt (pv 3) (pe_glob (v := .int (2)) (by rfl) (Classical.choose_spec T.g_LAST_FIELD) ⟨_, rfl⟩) (nomark _))
      (pss_one (ps_ret (pe_lst (pa_cons (pe_glob (v := .int (-1)) (by rfl) (Classical.choose_spec T.g_WRONG) ⟨_, rfl⟩) pa_nil))))
      pss_nil)
    (pss_cons (ps_set (i := 5) sc_ask_values.nd rfl (Or.inl rfl) (pe_call (ok_tellings_of T) (by exact hr.mono (by decide)) (by rfl) T.m_tellings_of T.f_tellings_of.kp T.b_tellings_of .nil pass0 (pa_cons (pe_fld (pe_call (ok_outline_of T) (by exact hr.mono (by decide)) (by rfl) T.m_outline_of T.f_outline_of.kp T.b_outline_of .nil pass0 (pa_cons (pv 0) (pa_cons (pv 1) pa_nil))) (by rfl)) (pa_cons (pv 2) (pa_cons (pv 3) pa_nil)))))
    (pss_one (ps_ret (pe_call (ok_counted_pairs T) (by exact hr.mono (by decide)) (by rfl) T.m_counted_pairs T.f_counted_pairs.kp T.b_counted_pairs .nil pass0 (pa_cons (pe_lc (own := [("deed", 6)]) (g := gName 6) (tt := tYes) (by rfl) sc_ask_values.nd (pi_list (pv 5)) (blkOk_by (own := [("deed", 6)]) (N := N_ask_values) (sc := defScope s_ask_values) (by decide +kernel)) (fun _ _ _ _ _ => pg_name (i := 6) sc_ask_values.nd rfl (Or.inl rfl)) (fun _ _ _ _ _ => pts_nil) (fun _ _ _ _ _ => (by exact (pe_tup (pa_cons (pe_fldK (K := K) (by rfl) (pv 6) (by rfl)) (pa_cons (pe_fldK (K := K) (by rfl) (pe_fldK (K := K) (by rfl) (pv 6) (by rfl)) (by rfl)) pa_nil)))))) pa_nil)))))))), ?_⟩)
  · obtain ⟨c, h, k, y, f, rfl, _⟩ := h; rfl
  · obtain ⟨c, h, k, y, f, rfl, x, res⟩ := h
    have st : h.step (.values k y f) = h.at_ k y fun l _ => if 3 ≤ f then (h, Sq36.says (-1)) else (h, ⟨(Sq36.values l y f).length, Sq36.ints ((Sq36.values l y f).flatMap fun z => [z.1.id, z.2])⟩) := rfl
    refine ⟨_, rfl, _, rfl, _, rfl, c, h, k, y, rfl, x, fun H1 s1 => ⟨_, rfl, rfl, _, rfl, ?_⟩⟩
    have x1 := x.same s1
    by_cases hk : k < h.hands
    case neg =>
      rw [ref_no hk, not_dec' (fun q => by injection q with q; omega)]
      exact iteT ⟨_, rfl, refuse x1 s1 res (by rw [st, at_no hk])⟩
    cases ht : Sq28.there (h.tree k) y with
    | false =>
      rw [ref_not hk ht, not_dec' (fun q => by injection q with q; omega)]
      exact iteT ⟨_, rfl, refuse x1 s1 res (by rw [st, at_not hk ht])⟩
    | true =>
      rw [ref_yes hk ht, not_dec rfl]
      rw [at_yes hk ht] at st
      refine iteF ⟨_, rfl, _, _, rfl, rfl, _, rfl, ?_⟩
      have gf : decide ((2 : Int) < (f : Int)) = decide (2 < f) := dec_lt 2 f
      by_cases hf : 2 < f
      · rw [decide_eq_true hf] at gf
        exact if_true' gf (refuse x1 s1 res (by rw [st, if_pos (by omega)]))
      rw [decide_eq_false hf] at gf
      rw [st, if_neg (by omega)] at res
      refine if_false' gf ⟨_, rfl, _, rfl, c, h, k, rfl, x1, hk, fun H2 o dl hl pl kvs s2 _ _ _ _ ho => ho.ob.held T ⟨_, rfl, _, rfl, hl, y, f, _, c.ad, _, rfl, ho.hl, held_dd (x1.same s2) k, sees_held x.ok k, held_len (x.ok.wf k), fun H3 q s3 nq hq => ⟨_, rfl, q, rfl, ⟨_, .of hq⟩, fun p np => ?_⟩⟩⟩
      have tl := tellings_len (Sq36.held (h.had k)) y f
      have hl' := held_len (x.ok.wf k)
      have s03 := s1.trans (s2.trans s3)
      refine lc_pairs (K := K) (a := q) (l := tellings (Sq36.held (h.had k)) y f) (f := rf c.ad) (i := 6) (fun d => (d.id, (told? d).getD 0)) np (.of hq) (by omega) (fun d hd H6 R s6 kR => ?_) fun H6 zs s6 hp pr ez => ?_
      · obtain ⟨hm, htl⟩ := tellings_told hd
        obtain ⟨sw, r, h1⟩ := (held_dd (x.same (s03.trans s6)) k) d hm
        refine ⟨_, rfl, h1.ob.number T ⟨_, rfl, h1.ob.act T (tell_val T h1.act htl ⟨by show 2 ≤ sizeLine; decide, fun t nt => kR _ t (same_upd nt) nt upd_same⟩)⟩⟩
      · have lz : zs.length = (tellings (Sq36.held (h.had k)) y f).length := by
          have := congrArg List.length ez
          rw [List.length_map, List.length_map] at this
          exact this
        refine ⟨p, zs, rfl, hp, pr, by omega, fun H7 p7 s7 n7 h7 => answer x (s03.trans (s6.trans s7)) res ((s03.trans s6).free n7) ?_⟩
        rw [h7, ez, pair_flat, ← vals_flat, lz, ← vals_len]
        unfold outs
        rw [List.map_cons, ints_nums]
theorem sum_amounts (l : List Sq36.Deed) (x : Nat) (ys : List Nat) : (((x :: ys).map (Sq36.amount l)).sum) = Sq36.amount l x + (ys.map (Sq36.amount l)).sum := by
  rw [List.map_cons, List.sum_cons]
def sp_ask_amounts (A : Ad) : Sp := fun vs H Q _ => ∃ (c : Cells) (h : Sq36.House) (k y : Nat), vs = [.ref c.hs, .int (k : Int), .int (y : Int)] ∧ HouseAt A c H h ∧ Res A c h H (h.step (.amounts k y)) Q
theorem ok_ask_amounts (T : Txt K mg A D) : FnOk P w K mg base CX0 8 A.f_ask_amounts D.d_ask_amounts ["house", "desk", "thing"] (sp_ask_amounts A) := by
  refine T.f_ask_amounts.ok sc_ask_amounts (fun vs H Q E h => ?_) (fun cdv ar outer s H vs Q E hr h => have hu := hu_of hr; ⟨_, (pss_cons (ps_set (i := 3) sc_ask_amounts.nd rfl (Or.inl rfl) (pe_call (ok_refusal_about T) (by exact hr.mono (by decide)) (by rfl) T.m_refusal_about T.f_refusal_about.kp T.b_refusal_about .nil pass0 (pa_cons (pv 0) (pa_cons (pv 1) (pa_cons (pv 2) pa_nil)))))
    (pss_cons (ps_if (pt_cmpR op_ne (pv 3) (pe_glob (v := .int (0)) (by rfl) (Classical.choose_spec T.g_NOT_REFUSED) ⟨_, rfl⟩) (nomark _))
      (pss_one (ps_ret (pe_lst (pa_cons (pv 3) pa_nil))))
      pss_nil)
    (pss_cons (ps_set (i := 4) sc_ask_amounts.nd rfl (Or.inr rfl) (pe_call (ok_outline_of T) (by exact hr.mono (by decide)) (by rfl) T.m_outline_of T.f_outline_of.kp T.b_outline_of .nil pass0 (pa_cons (pv 0) (pa_cons (pv 1) pa_nil))))
    (pss_cons (ps_setLc (i := 5) (own := [("pair", 6)]) (g := gName 6) (tt := tYes) (by rfl) sc_ask_amounts.nd rfl rfl (sw_true rfl rfl rfl (by decide +kernel)) (pi_list (pe_call (ok_within T) (by exact hr.mono (by decide)) (by rfl) T.m_within T.f_within.kp T.b_within .nil pass0 (pa_cons (pv 4) (pa_cons (pv 2) pa_nil)))) (blkOk_by (own := [("pair", 6)]) (N := N_ask_amounts) (sc := defScope s_ask_amounts) (by decide +kernel)) (fun _ _ _ _ _ => pg_name (i := 6) sc_ask_amounts.nd rfl (Or.inl rfl)) (fun _ _ _ _ _ => pts_nil) (fun _ _ _ _ _ => (by exact (pe_call (ok_amount_of T) (by exact hr.mono (by decide)) (by rfl) T.m_amount_of T.f_amount_of.kp T.b_amount_of .nil pass0 (pa_cons (pe_fldK (K := K) (by rfl) (pv 4) (by rfl)) (pa_cons (pe_ix (ixTK (K := K) (by rfl)) (pv 6) pe_int (by exact fun _ _ => rfl)) pa_nil))))))
    (pss_cons (ps_set (i := 7) sc_ask_amounts.nd rfl (Or.inl rfl) (pe_call (ok_amount_of T) (by exact hr.mono (by decide)) (by rfl) T.m_amount_of T.f_amount_of.kp T.b_amount_of .nil pass0 (pa_cons (pe_fld (pv 4) (by rfl)) (pa_cons (pv 2) pa_nil))))
    (pss_one (ps_ret (pe_lst (pa_cons (pe_callB call_len_seq (by rfl) T.n_len PySem.boot_len (pa_cons (pv 5) pa_nil)) (pa_cons (pv 7) (pa_cons (pe_op op_add (pv 7) (pe_callB (cr_sum rfl) (by rfl) T.n_sum (by decide +kernel) (pa_cons (pv 5) pa_nil))) pa_nil))))))))))), ?_⟩)
  · obtain ⟨c, h, k, y, rfl, _⟩ := h; rfl
  · obtain ⟨c, h, k, y, rfl, x, res⟩ := h
    have st : h.step (.amounts k y) = h.at_ k y fun l _ => (h, ⟨(Sq36.within l y).length, [Sq36.amount l y, (((y :: (Sq36.within l y).map fun z => z.1).map (Sq36.amount l)).sum)]⟩) := rfl
    refine ⟨_, rfl, _, rfl, _, rfl, c, h, k, y, rfl, x, fun H1 s1 => ⟨_, rfl, rfl, _, rfl, ?_⟩⟩
    have x1 := x.same s1
    by_cases hk : k < h.hands
    case neg =>
      rw [ref_no hk, not_dec' (fun q => by injection q with q; omega)]
      exact iteT ⟨_, rfl, refuse x1 s1 res (by rw [st, at_no hk])⟩
    cases ht : Sq28.there (h.tree k) y with
    | false =>
      rw [ref_not hk ht, not_dec' (fun q => by injection q with q; omega)]
      exact iteT ⟨_, rfl, refuse x1 s1 res (by rw [st, at_not hk ht])⟩
    | true =>
      rw [ref_yes hk ht, not_dec rfl]
      rw [st, at_yes hk ht] at res
      refine iteF ⟨_, rfl, _, rfl, c, h, k, rfl, x1, hk, fun H2 o dl hl pl kvs s2 _ _ _ _ ho => ⟨_, rfl, _, rfl, o, dl, hl, pl, y, kvs, h.had k, c.ad, _, rfl, ho, had_dd (x1.same s2) k, x.ok.wf k, fun H3 q zs s3 nq hq pr ez nz => ⟨q, rfl, ⟨_, .of hq⟩, fun p np => ?_⟩⟩⟩
      have wl := within_len (x.ok.wf k) y
      have lz : zs.length = (Sq36.within (h.had k) y).length := by rw [← ez, List.length_map]
      have hl' := held_len (x.ok.wf k)
      have s03 := s1.trans (s2.trans s3)
      have am : ∀ z, ((((Sq36.held (h.had k)).filter (addOf? z)).map amt).sum) = Sq36.amount (h.had k) z := fun z => (amount_adds (h.had k) z).symm
      refine lc_pick (K := K) (a := q) (l := zs) (f := fun z => V.ref z.1) (i := 6) (fun _ => true) (fun z => V.int (Sq36.amount (h.had k) z.2.1)) np (.of hq) (by omega) (fun d hd H6 R s6 kR => kR H6 (Same.refl _)) (fun z hz H7 H6 R s6 kR => ?_) fun H6 s6 hp => ?_
      · have ho6 := ho.same (s3.trans s6)
        have pz := s6 _ _ (pr z hz)
        refine ⟨_, rfl, ho6.ob.held T ⟨_, rfl, z.1, _, _, _, rfl, rfl, .of pz, rfl, hl, z.2.1, _, c.ad, _, rfl, ho6.hl, held_dd (x.same (s03.trans s6)) k, hl', fun H8 s8 => ?_⟩⟩
        rw [am]
        exact kR H8 s8
      · have e6 : H6 p = some (.lst (((Sq36.within (h.had k) y).map fun z => Sq36.amount (h.had k) z.1).map V.int)) := by
          rw [hp, filter_yes, ← ez, List.map_map, List.map_map]
          rfl
        have ho6 := ho.same (s3.trans s6)
        refine ⟨_, rfl, ho6.ob.held T ⟨_, rfl, hl, y, _, c.ad, _, rfl, ho6.hl, held_dd (x.same (s03.trans s6)) k, hl', fun H7 s7 => ?_⟩⟩
        rw [am]
        have e7 := s7 _ _ e6
        refine ⟨_, rfl, p, _, rfl, .inl (.of e7), _, rfl, _, rfl, _, rfl, p, _, rfl, .of e7, _, _, rfl, rfl, by show 3 ≤ sizeLine; decide, fun p8 n8 => answer x (s03.trans (s6.trans (s7.trans (same_upd n8)))) res ((s03.trans (s6.trans s7)).free n8) ?_⟩
        rw [upd_same, sum_amounts]
        unfold outs
        rw [List.length_map, List.length_map, List.map_map]
        rfl
def sp_ask_find (A : Ad) : Sp := fun vs H Q _ => ∃ (c : Cells) (h : Sq36.House) (k f v : Nat), vs = [.ref c.hs, .int (k : Int), .int (f : Int), .int (v : Int)] ∧ HouseAt A c H h ∧ Res A c h H (h.step (.find k f v)) Q
theorem ok_ask_find (T : Txt K mg A D) : FnOk P w K mg base CX0 7 A.f_ask_find D.d_ask_find ["house", "desk", "field", "value"] (sp_ask_find A) := by
  refine T.f_ask_find.ok sc_ask_find (fun vs H Q E h => ?_) (fun cdv ar outer s H vs Q E hr h => have hu := hu_of hr; ⟨_, (pss_cons (ps_if (pt_not (pt_val (pe_call (ok_has_desk T) (by exact hr.mono (by decide)) (by rfl) T.m_has_desk T.f_has_desk.kp T.b_has_desk .nil pass0 (pa_cons (pv 0) (pa_cons (pv 1) pa_nil)))))
      (pss_one (ps_ret (pe_lst (pa_cons (pe_glob (v := .int (-2)) (by rfl) (Classical.choose_spec T.g_NO_DESK) ⟨_, rfl⟩) pa_nil))))
      pss_nil)
    (pss_cons (ps_if (pt_cmpR op_gt (pv 2) (pe_glob (v := .int (2)) (by rfl) (Classical.choose_spec T.g_LAST_FIELD) ⟨_, rfl⟩) (nomark _))
      (pss_one (ps_ret (pe_lst (pa_cons (pe_glob (v := .int (-1)) (by rfl) (Classical.choose_spec T.g_WRONG) ⟨_, rfl⟩) pa_nil))))
      pss_nil)
    (pss_cons (ps_set (i := 4) sc_ask_find.nd rfl (Or.inr rfl) (pe_call (ok_outline_of T) (by exact hr.mono (by decide)) (by rfl) T.m_outline_of T.f_outline_of.kp T.b_outline_of .nil pass0 (pa_cons (pv 0) (pa_cons (pv 1) pa_nil))))
    (pss_cons (ps_setLc (i := 5) (own := [("pair", 6)]) (g := gName 6) (tt := tYes) (by rfl) sc_ask_find.nd rfl rfl (sw_true rfl rfl rfl (by decide +kernel)) (pi_list (pe_call (ok_within T) (by exact hr.mono (by decide)) (by rfl) T.m_within T.f_within.kp T.b_within .nil pass0 (pa_cons (pv 4) (pa_cons (pe_glob (v := .int (0)) (by rfl) (Classical.choose_spec T.g_ROOT) ⟨_, rfl⟩) pa_nil)))) (blkOk_by (own := [("pair", 6)]) (N := N_ask_find) (sc := defScope s_ask_find) (by decide +kernel)) (fun _ _ _ _ _ => pg_name (i := 6) sc_ask_find.nd rfl (Or.inl rfl)) (fun _ _ _ _ _ => pts_nil) (fun _ _ _ _ _ => (by exact (pe_ix (ixTK (K := K) (by rfl)) (pv 6) pe_int (by exact fun _ _ => rfl)))))
    (pss_one (ps_ret (pe_call (ok_counted T) (by exact hr.mono (by decide)) (by rfl) T.m_counted T.f_counted.kp T.b_counted .nil pass0 (pa_cons (pe_lc (own := [("thing", 7)]) (g := gName 7)  (by rfl) sc_ask_find.nd (pi_list (pv 5)) (blkOk_by (own := [("thing", 7)]) (N := N_ask_find) (sc := defScope s_ask_find) (by decide +kernel)) (fun _ _ _ _ _ => pg_name (i := 7) sc_ask_find.nd rfl (Or.inl rfl)) (fun _ _ _ _ _ => pts_one (by exact (pt_val (pe_call (ok_has_value T) (by exact hr.mono (by decide)) (by rfl) T.m_has_value T.f_has_value.kp T.b_has_value .nil pass0 (pa_cons (pe_fldK (K := K) (by rfl) (pv 4) (by rfl)) (pa_cons (pv 7) (pa_cons (pv 2) (pa_cons (pv 3) pa_nil)))))))) (fun _ _ _ _ _ => (by exact (pv 7)))) pa_nil)))))))), ?_⟩)
  · obtain ⟨c, h, k, f, v, rfl, _⟩ := h; rfl
  · obtain ⟨c, h, k, f, v, rfl, x, res⟩ := h
    have st : h.step (.find k f v) = if h.hands ≤ k then (h, Sq36.says (-2)) else if 3 ≤ f then (h, Sq36.says (-1)) else
      (h, ⟨(((Sq36.within (h.had k) 0).map fun y => y.1).filter fun z => (Sq36.values (h.had k) z f).any fun y => y.2 == v).length, Sq36.ints (((Sq36.within (h.had k) 0).map fun y => y.1).filter fun z => (Sq36.values (h.had k) z f).any fun y => y.2 == v)⟩) := rfl
    refine ⟨_, rfl, _, rfl, c, h, k, rfl, x, _, rfl, ?_⟩
    by_cases hk : k < h.hands
    case neg =>
      rw [decide_eq_false hk]
      exact iteT (refuse x (Same.refl _) res (by rw [st, if_pos (by omega)]))
    rw [decide_eq_true hk]
    rw [if_neg (by omega)] at st
    refine iteF ⟨_, rfl, _, _, rfl, rfl, _, rfl, ?_⟩
    have gf : decide ((2 : Int) < (f : Int)) = decide (2 < f) := dec_lt 2 f
    by_cases hf : 2 < f
    · rw [decide_eq_true hf] at gf
      exact if_true' gf (refuse x (Same.refl _) res (by rw [st, if_pos (by omega)]))
    rw [decide_eq_false hf] at gf
    rw [st, if_neg (by omega)] at res
    refine if_false' gf ⟨_, rfl, _, rfl, c, h, k, rfl, x, hk, fun H2 o dl hl pl kvs s2 _ _ _ _ ho => ⟨_, rfl, o, dl, hl, pl, 0, kvs, h.had k, c.ad, _, rfl, ho, had_dd (x.same s2) k, x.ok.wf k, fun H3 q zs s3 nq hq pr ez nz => ⟨q, rfl, ⟨_, .of hq⟩, fun p np => ?_⟩⟩⟩
    have wl := within_len (x.ok.wf k) 0
    have lz : zs.length = (Sq36.within (h.had k) 0).length := by rw [← ez, List.length_map]
    have hl' := held_len (x.ok.wf k)
    have s03 := s2.trans s3
    refine lc_pick (K := K) (a := q) (l := zs) (f := fun z => V.ref z.1) (i := 6) (fun _ => true) (fun z => V.int (z.2.1 : Int)) np (.of hq) (by omega) (fun d hd H6 R s6 kR => kR H6 (Same.refl _)) (fun z hz _ H6 R s6 kR => ?_) fun H6 s6 hp => ?_
    · exact ⟨_, rfl, z.1, _, _, _, rfl, rfl, .of (s6 _ _ (pr z hz)), rfl, kR H6 (Same.refl _)⟩
    · have e6 : H6 p = some (.lst (((Sq36.within (h.had k) 0).map fun y => y.1).map fun (n : Nat) => V.int (n : Int))) := by
        rw [hp, filter_yes, ← ez, List.map_map, List.map_map]
        rfl
      refine ⟨_, rfl, p, rfl, ⟨_, .of e6⟩, fun p7 n7 => ?_⟩
      have s06 := s03.trans s6
      refine lc_pick (K := K) (a := p) (l := (Sq36.within (h.had k) 0).map fun y => y.1) (f := fun (n : Nat) => V.int (n : Int)) (i := 7) (fun z => (Sq36.values (h.had k) z f).any fun y => y.2 == v) (fun (n : Nat) => V.int (n : Int)) n7 (.of e6) (by rw [List.length_map]; omega) (fun z hz H7 R s7 kR => ?_) (fun z hz _ H7 R s7 kR => ⟨_, rfl, kR H7 (Same.refl _)⟩) fun H7 s7 hp7 => ?_
      · have ho7 := ho.same (s3.trans (s6.trans s7))
        refine ⟨_, rfl, ho7.ob.held T ⟨_, rfl, _, rfl, _, rfl, hl, z, f, v, _, c.ad, _, rfl, ho7.hl, held_dd (x.same (s06.trans s7)) k, sees_held x.ok k, hl', fun H8 s8 => ⟨_, rfl, ?_⟩⟩⟩
        rw [← val_any]
        exact kR H8 s8
      · refine ⟨p7, _, rfl, hp7, ?_, fun H8 p8 s8 n8 h8 => answer x (s06.trans (s7.trans s8)) res ((s06.trans s7).free n8) ?_⟩
        · rw [List.length_map]
          refine Nat.le_trans (List.length_filter_le _ _) ?_
          rw [List.length_map]; omega
        · rw [h8, List.length_map]
          unfold outs
          rw [List.map_cons, ints_nums]
          rfl
end
end Ho
end

section
set_option Elab.async false
set_option maxRecDepth 100000
set_option maxHeartbeats 4000000
/-! ask_same -/
namespace Ho
open PySem PySem.W PyProof.Rows L2
def numD (l : List Nat) : List PyData := l.map fun (n : Nat) => PyData.int (n : Int)
def pairD (l : List (Nat × Nat)) : List PyData := l.map fun y => PyData.tuple [.int (y.1 : Int), .int (y.2 : Int)]
theorem numD_eqv : ∀ a b : List Nat, PyData.eqvAll (numD a) (numD b) = decide (a = b)
  | [], [] => by simp [numD, PyData.eqvAll]
  | [], _ :: _ => by simp [numD, PyData.eqvAll]
  | _ :: _, [] => by simp [numD, PyData.eqvAll]
  | x :: a, y :: b => by
    have ih := numD_eqv a b
    unfold numD at ih ⊢
    rw [List.map_cons, List.map_cons, PyData.eqvAll, ih]
    simp only [PyData.eqv]
    by_cases e : x = y
    · subst e; simp
    · have : ((x : Int) == (y : Int)) = false := beq_eq_false_iff_ne.mpr (by omega)
      rw [this, Bool.false_and]
      simp [e]
theorem pairD_eqv : ∀ a b : List (Nat × Nat), PyData.eqvAll (pairD a) (pairD b) = decide (a = b)
  | [], [] => by simp [pairD, PyData.eqvAll]
  | [], _ :: _ => by simp [pairD, PyData.eqvAll]
  | _ :: _, [] => by simp [pairD, PyData.eqvAll]
  | (x1, x2) :: a, (y1, y2) :: b => by
    have ih := pairD_eqv a b
    unfold pairD at ih ⊢
    rw [List.map_cons, List.map_cons, PyData.eqvAll, ih]
    simp only [PyData.eqv, PyData.eqvAll]
    by_cases e1 : x1 = y1
    · by_cases e2 : x2 = y2
      · subst e1; subst e2; simp
      · have : ((x2 : Int) == (y2 : Int)) = false := beq_eq_false_iff_ne.mpr (by omega)
        rw [this]
        simp [e2]
    · have : ((x1 : Int) == (y1 : Int)) = false := beq_eq_false_iff_ne.mpr (by omega)
      rw [this]
      simp [e1]
theorem numD_lay : ∀ a : List Nat, PyData.canLayAll0 (numD a) = true ∧ PyData.depthAll (numD a) = 0
  | [] => ⟨rfl, rfl⟩
  | x :: a => by
    have ih := numD_lay a
    unfold numD at ih ⊢
    rw [List.map_cons]
    simp only [PyData.canLayAll0, PyData.canLay0, PyData.depthAll, PyData.depth, ih.1, ih.2]
    exact ⟨rfl, rfl⟩
theorem pairD_lay : ∀ a : List (Nat × Nat), PyData.canLayAll0 (pairD a) = true ∧ PyData.depthAll (pairD a) ≤ 1
  | [] => ⟨rfl, Nat.zero_le _⟩
  | x :: a => by
    have ih := pairD_lay a
    unfold pairD at ih ⊢
    rw [List.map_cons]
    simp only [PyData.canLayAll0, PyData.canLay0, PyData.depthAll, PyData.depth, ih.1]
    exact ⟨rfl, by omega⟩
theorem numD_shaped (a : List Nat) : SeqAt.shaped (.list (numD a)) = true := by
  obtain ⟨h1, h2⟩ := numD_lay a
  unfold SeqAt.shaped
  simp only [PyData.canLay0, PyData.depth, h1, h2]
  decide
theorem pairD_shaped (a : List (Nat × Nat)) : SeqAt.shaped (.list (pairD a)) = true := by
  obtain ⟨h1, h2⟩ := pairD_lay a
  unfold SeqAt.shaped
  simp only [PyData.canLay0, PyData.depth, h1, Bool.true_and]
  exact decide_eq_true (by omega)
theorem numD_at {K : PySem.W.Frag} {H : Hp} : ∀ l : List Nat, DpAll K H (nums l) (numD l)
  | [] => .nil
  | x :: l => .cons (.int _) (numD_at l)
theorem pairD_at {K : PySem.W.Frag} {H : Hp} : ∀ zs : Prs, PrAt H zs → DpAll K H (pv2 zs) (pairD (zs.map (·.2)))
  | [], _ => .nil
  | z :: zs, p => .cons (.tup (.of (p z List.mem_cons_self)) (.cons (.int _) (.cons (.int _) .nil))) (pairD_at zs fun y hy => p y (List.mem_cons_of_mem _ hy))
section
variable {P : Program} {w : World} {K : PySem.W.Frag} {mg : Str → Option Value} {base : Heap} {A : Ad} {D : Fd}
def sp_ask_same (A : Ad) : Sp := fun vs H Q _ => ∃ (c : Cells) (h : Sq36.House) (k j : Nat), vs = [.ref c.hs, .int (k : Int), .int (j : Int)] ∧ HouseAt A c H h ∧ Res A c h H (h.step (.same k j)) Q
set_option maxHeartbeats 8000000 in
theorem ok_ask_same (T : Txt K mg A D) : FnOk P w K mg base CX0 7 A.f_ask_same D.d_ask_same ["house", "desk", "other"] (sp_ask_same A) := by
  refine T.f_ask_same.ok sc_ask_same (fun vs H Q E h => ?_) (fun cdv ar outer s H vs Q E hr h => have hu := hu_of hr; ⟨_, (pss_cons (ps_if (PW.pt (pw_or (pt_not (pt_val (pe_call (ok_has_desk T) (by exact hr.mono (by decide)) (by rfl) T.m_has_desk T.f_has_desk.kp T.b_has_desk .nil pass0 (pa_cons (pv 0) (pa_cons (pv 1) pa_nil))))) (pw_or1 (pt_not (pt_val (pe_call (ok_has_desk T) (by exact hr.mono (by decide)) (by rfl) T.m_has_desk T.f_has_desk.kp T.b_has_desk .nil pass0 (pa_cons (pv 0) (pa_cons (pv 2) pa_nil))))))))
      (pss_one (ps_ret (pe_lst (pa_cons (pe_glob (v := .int (-2)) (by rfl) (Classical.choose_spec T.g_NO_DESK) ⟨_, rfl⟩) pa_nil))))
      pss_nil)
    (pss_cons (ps_set (i := 3) sc_ask_same.nd rfl (Or.inl rfl) (pe_cmpR (op_eqD (by exact hr.units)) (pe_fld (pe_ix ix_list (pe_fld (pv 0) (by rfl)) (pv 1) (by exact fun _ _ => rfl)) (by rfl)) (pe_fld (pe_ix ix_list (pe_fld (pv 0) (by rfl)) (pv 2) (by exact fun _ _ => rfl)) (by rfl)) (nomark _)))
    (pss_cons (ps_set (i := 4) sc_ask_same.nd rfl (Or.inl rfl) (pe_cmpR (op_eqD (by exact hr.units)) (pe_call (ok_within T) (by exact hr.mono (by decide)) (by rfl) T.m_within T.f_within.kp T.b_within .nil pass0 (pa_cons (pe_call (ok_outline_of T) (by exact hr.mono (by decide)) (by rfl) T.m_outline_of T.f_outline_of.kp T.b_outline_of .nil pass0 (pa_cons (pv 0) (pa_cons (pv 1) pa_nil))) (pa_cons (pe_glob (v := .int (0)) (by rfl) (Classical.choose_spec T.g_ROOT) ⟨_, rfl⟩) pa_nil))) (pe_call (ok_within T) (by exact hr.mono (by decide)) (by rfl) T.m_within T.f_within.kp T.b_within .nil pass0 (pa_cons (pe_call (ok_outline_of T) (by exact hr.mono (by decide)) (by rfl) T.m_outline_of T.f_outline_of.kp T.b_outline_of .nil pass0 (pa_cons (pv 0) (pa_cons (pv 2) pa_nil))) (pa_cons (pe_glob (v := .int (0)) (by rfl) (Classical.choose_spec T.g_ROOT) ⟨_, rfl⟩) pa_nil))) (nomark _)))
    (pss_one (ps_ret (pe_lst (pa_cons (pe_ifExp (pt_val (pv 3)) pe_int pe_int) (pa_cons (pe_ifExp (pt_val (pv 4)) pe_int pe_int) pa_nil)))))))), ?_⟩)
  · obtain ⟨c, h, k, j, rfl, _⟩ := h; rfl
  · obtain ⟨c, h, k, j, rfl, x, res⟩ := h
    have st : h.step (.same k j) = if h.hands ≤ k ∨ h.hands ≤ j then (h, Sq36.says (-2)) else (h, ⟨if (h.desk k).has = (h.desk j).has then 1 else 0, [if Sq36.within (h.had k) 0 = Sq36.within (h.had j) 0 then 1 else 0]⟩) := rfl
    refine ⟨_, rfl, _, rfl, c, h, k, rfl, x, _, rfl, ?_⟩
    by_cases hk : k < h.hands
    case neg =>
      rw [decide_eq_false hk]
      exact iteT (iteT (refuse x (Same.refl _) res (by rw [st, if_pos (.inl (by omega))])))
    rw [decide_eq_true hk]
    refine iteF ⟨_, rfl, _, rfl, c, h, j, rfl, x, _, rfl, ?_⟩
    by_cases hj : j < h.hands
    case neg =>
      rw [decide_eq_false hj]
      exact iteT (refuse x (Same.refl _) res (by rw [st, if_pos (.inr (by omega))]))
    rw [decide_eq_true hj]
    rw [st, if_neg (fun z => by omega)] at res
    have dk := x.desk k hk
    have dj := x.desk j hj
    refine iteF ⟨_, rfl, x.ob.desks T ⟨_, rfl, c.dk, _, _, _, rfl, rfl, .of x.dk, atI_nat (refs_get hk), dk.ob.counts T ⟨_, rfl, x.ob.desks T ⟨_, rfl, c.dk, _, _, _, rfl, rfl, .of x.dk, atI_nat (refs_get hj), dj.ob.counts T ⟨.list (numD (h.desk k).has), .list (numD (h.desk j).has), .lst (.of dk.ca) (numD_at _), .lst (.of dj.ca) (numD_at _), numD_shaped _, numD_shaped _, ?_⟩⟩⟩⟩⟩
    have g1 : PyData.eqv (.list (numD (h.desk k).has)) (.list (numD (h.desk j).has)) = decide ((h.desk k).has = (h.desk j).has) := by
      simp only [PyData.eqv]; exact numD_eqv _ _
    rw [g1]
    refine ⟨_, rfl, _, rfl, c, h, k, rfl, x, hk, fun H2 o dl hl pl kvs s2 _ _ _ _ ho => ⟨o, dl, hl, pl, 0, kvs, h.had k, c.ad, _, rfl, ho, had_dd (x.same s2) k, x.ok.wf k, fun H3 q zs s3 nq hq pr ez nz => ?_⟩⟩
    have s03 := s2.trans s3
    refine ⟨_, rfl, _, rfl, c, h, j, rfl, x.same s03, hj, fun H4 o4 dl4 hl4 pl4 kvs4 s4 _ _ _ _ ho4 => ⟨o4, dl4, hl4, pl4, 0, kvs4, h.had j, c.ad, _, rfl, ho4, had_dd ((x.same s03).same s4) j, x.ok.wf j, fun H5 q5 zs5 s5 nq5 hq5 pr5 ez5 nz5 => ?_⟩⟩
    have s35 := s4.trans s5
    refine ⟨.list (pairD (zs.map (·.2))), .list (pairD (zs5.map (·.2))), .lst (.of (s35 _ _ hq)) (pairD_at _ (pr.same s35)), .lst (.of hq5) (pairD_at _ pr5), pairD_shaped _, pairD_shaped _, ?_⟩
    have g2 : PyData.eqv (.list (pairD (zs.map (·.2)))) (.list (pairD (zs5.map (·.2)))) = decide (Sq36.within (h.had k) 0 = Sq36.within (h.had j) 0) := by
      rw [ez, ez5]
      simp only [PyData.eqv]; exact pairD_eqv _ _
    rw [g2]
    refine ⟨_, rfl, _, rfl, ?_⟩
    have fin : ∀ (b1 b2 : Bool), b1 = decide ((h.desk k).has = (h.desk j).has) → b2 = decide (Sq36.within (h.had k) 0 = Sq36.within (h.had j) 0) → ∀ p, H5 p = none → Q (.ref p) (upd H5 p (.lst [.int (if b1 = true then 1 else 0), .int (if b2 = true then 1 else 0)])) := by
      intro b1 b2 e1 e2 p np
      refine answer x (s03.trans (s35.trans (same_upd np))) res ((s03.trans s35).free np) ?_
      rw [upd_same]
      unfold outs
      simp only [List.map_cons, List.map_nil, e1, e2, decide_eq_true_eq]
    cases b1 : decide ((h.desk k).has = (h.desk j).has) with
    | true =>
      refine iteT ⟨_, rfl, _, rfl, ?_⟩
      cases b2 : decide (Sq36.within (h.had k) 0 = Sq36.within (h.had j) 0) with
      | true => exact iteT ⟨by show 2 ≤ sizeLine; decide, fun p np => fin true true b1.symm b2.symm p np⟩
      | false => exact iteF ⟨by show 2 ≤ sizeLine; decide, fun p np => fin true false b1.symm b2.symm p np⟩
    | false =>
      refine iteF ⟨_, rfl, _, rfl, ?_⟩
      cases b2 : decide (Sq36.within (h.had k) 0 = Sq36.within (h.had j) 0) with
      | true => exact iteT ⟨by show 2 ≤ sizeLine; decide, fun p np => fin false true b1.symm b2.symm p np⟩
      | false => exact iteF ⟨by show 2 ≤ sizeLine; decide, fun p np => fin false false b1.symm b2.symm p np⟩
end
end Ho
end

section
set_option Elab.async false
set_option maxRecDepth 100000
set_option maxHeartbeats 4000000
/-! others_of, settled_count, is_sure_of_all, kept_deeds, ripe_deeds, forget, ask_kept -/
namespace Ho
open PySem PySem.W PyProof.Rows L2
/-- a comprehension over range(n) whose tests and items change nothing -/
theorem lc_upto {n i : Nat} {tt : TT} {te : TE} {vs : List Nat} {σ : L2.St} {H1 : Hp} {D : Addr} {Qd : Hp → Prop} (p : Nat → Bool) (y : Nat → V) (hD : H1 D = none) (hl : n ≤ 2000)
    (ht : ∀ x : Nat, x < n → ∀ (H : Hp) (R : Bool → Hp → Prop), Same H1 H → (∀ H', Same H H' → R (p x) H') → tt ((wipe σ vs).set i (some (.int (x : Int)))) H R)
    (he : ∀ x : Nat, x < n → p x = true → ∀ (H : Hp) (R : VK), Same H1 H → (∀ H', Same H H' → R (y x) H') → te ((wipe σ vs).set i (some (.int (x : Int)))) H R)
    (hd : ∀ H, Same H1 H → H D = some (.lst (((List.range n).filter p).map y)) → Qd H) (hw : ∀ x, wipe ((wipe σ vs).set i (some x)) vs = wipe σ vs := by intro x; rfl) :
    ∃ W : Nat → Nat → Hp → Prop, (∃ m, W 0 m (upd H1 D (.lst []))) ∧ ∀ i' m H, W i' m H →
      ((Itr 0 n).stop i' H ∧ Qd H) ∨ ((Itr 0 n).go i' H ∧ ∃ Nx : Hp → Prop, (∀ H', Nx H' → ∃ m', m' < m ∧ W (i' + 1) m' H') ∧ ∀ x H', (Itr 0 n).yld i' H x H' → gName i x (wipe σ vs) H' fun σ2 H2 => wipe σ2 vs = wipe σ vs ∧ tt σ2 H2 fun b H3 =>
        if b = true then te σ2 H3 fun y H4 => ∃ acc, H4 D = some (.lst acc) ∧ acc.length < sizeLine ∧ Nx (upd H4 D (.lst (acc ++ [y]))) else Nx H3) := by
  refine lc_range (lo := 0) (n := n) (fun j H => Same H1 H ∧ H D = some (.lst (((List.range j).filter p).map y))) ⟨same_upd hD, upd_same⟩ (fun j H hj q => ?_) fun H q => hd H q.1 q.2
  rw [Int.zero_add]
  refine ⟨hw _, ht j hj H _ q.1 fun H' s' => ?_⟩
  by_cases c : p j = true
  · rw [if_pos c]
    refine he j hj c H' _ (q.1.trans s') fun H2 s2 => ⟨_, s2 _ _ (s' _ _ q.2), ?_, same_upd2 (q.1.trans (s'.trans s2)) hD, ?_⟩
    · refine small_of (Nat.le_trans ?_ hl)
      rw [List.length_map]
      exact Nat.le_trans (List.length_filter_le _ _) (by rw [List.length_range]; omega)
    · rw [upd_same, List.range_succ, List.filter_append, List.filter_cons_of_pos c, List.map_append]
      rfl
  · rw [if_neg c]
    refine ⟨q.1.trans s', ?_⟩
    rw [s' _ _ q.2, List.range_succ, List.filter_append, List.filter_cons_of_neg c, List.filter_nil, List.append_nil]
section
variable {P : Program} {w : World} {K : PySem.W.Frag} {mg : Str → Option Value} {base : Heap} {A : Ad} {D : Fd}
def sp_others_of (A : Ad) : Sp := fun vs H Q _ => ∃ (c : Cells) (h : Sq36.House) (k : Nat), vs = [.ref c.hs, .int (k : Int)] ∧ HouseAt A c H h ∧ ∀ (H' : Hp) (p : Addr), Same H H' → H p = none → H' p = some (.lst (nums (others h k))) → Q (.ref p) H'
theorem ok_others_of (T : Txt K mg A D) : FnOk P w K mg base CX0 1 A.f_others_of D.d_others_of ["house", "desk"] (sp_others_of A) := by
  refine T.f_others_of.ok sc_others_of (fun vs H Q E h => ?_) (fun cdv ar outer s H vs Q E hr h => have hu := hu_of hr; ⟨_, (pss_one (ps_ret (pe_lc (own := [("other", 2)]) (g := gName 2)  (by rfl) sc_others_of.nd (pi_range1 (by rfl) T.n_range (pa_cons (pe_callB call_len_seq (by rfl) T.n_len PySem.boot_len (pa_cons (pe_fld (pv 0) (by rfl)) pa_nil)) pa_nil)) (blkOk_by (own := [("other", 2)]) (N := N_others_of) (sc := defScope s_others_of) (by decide +kernel)) (fun _ _ _ _ _ => pg_name (i := 2) sc_others_of.nd rfl (Or.inl rfl)) (fun _ _ _ _ _ => pts_one (by exact (pt_cmpR op_ne (pv 2) (pv 1) (nomark _)))) (fun _ _ _ _ _ => (by exact (pv 2)))))), ?_⟩)
  · obtain ⟨c, h, k, rfl, _⟩ := h; rfl
  · obtain ⟨c, h, k, rfl, x, q⟩ := h
    have hi := x.ok.hi
    refine ⟨_, rfl, x.ob.desks T ⟨c.dk, _, rfl, .inl (.of x.dk), ?_⟩⟩
    rw [refs_len]
    refine ⟨(h.hands : Int), rfl, by omega, by omega, fun L nL => ?_⟩
    refine lc_upto (n := h.hands) (i := 2) (fun j => j != k) (fun (j : Nat) => V.int (j : Int)) nL (by omega) (fun j hj H6 R s6 kR => ?_) (fun j hj _ H6 R s6 kR => ⟨_, rfl, kR H6 (Same.refl _)⟩) fun H6 s6 hp => q H6 L s6 nL hp
    refine ⟨_, rfl, _, rfl, rfl, _, rfl, ?_⟩
    have g := kR H6 (Same.refl _)
    have e : (!decide (V.int (j : Int) = V.int (k : Int))) = (j != k) := by rw [dec_int]; rfl
    rw [e]
    exact g
def sp_settled_count (A : Ad) : Sp := fun vs H Q _ => ∃ (c : Cells) (h : Sq36.House) (k : Nat), vs = [.ref c.hs, .int (k : Int)] ∧ HouseAt A c H h ∧ k < h.hands ∧ ∀ (H' : Hp), Same H H' → Q (.int (h.settled k : Int)) H'
theorem ok_settled_count (T : Txt K mg A D) : FnOk P w K mg base CX0 2 A.f_settled_count D.d_settled_count ["house", "desk"] (sp_settled_count A) := by
  refine T.f_settled_count.ok sc_settled_count (fun vs H Q E h => ?_) (fun cdv ar outer s H vs Q E hr h => have hu := hu_of hr; ⟨_, (pss_cons (ps_set (i := 2) sc_settled_count.nd rfl (Or.inr rfl) (pe_ix ix_list (pe_fld (pv 0) (by rfl)) (pv 1) (by exact fun _ _ => rfl)))
    (pss_one (ps_ret (pe_callB (cr_min rfl) (by rfl) T.n_min (by decide +kernel) (pa_cons (pe_op op_cat (pe_lst (pa_cons (pe_fld (pv 2) (by rfl)) pa_nil)) (pe_lc (own := [("other", 3)]) (g := gName 3) (tt := tYes) (by rfl) sc_settled_count.nd (pi_list (pe_call (ok_others_of T) (by exact hr.mono (by decide)) (by rfl) T.m_others_of T.f_others_of.kp T.b_others_of .nil pass0 (pa_cons (pv 0) (pa_cons (pv 1) pa_nil)))) (blkOk_by (own := [("other", 3)]) (N := N_settled_count) (sc := defScope s_settled_count) (by decide +kernel)) (fun _ _ _ _ _ => pg_name (i := 3) sc_settled_count.nd rfl (Or.inl rfl)) (fun _ _ _ _ _ => pts_nil) (fun _ _ _ _ _ => (by exact (pe_ix (ixK (K := K) (by rfl)) (pe_fldK (K := K) (by rfl) (pv 2) (by rfl)) (pv 3) (by exact fun _ _ => rfl)))))) pa_nil))))), ?_⟩)
  · obtain ⟨c, h, k, rfl, _⟩ := h; rfl
  · obtain ⟨c, h, k, rfl, x, hk, q⟩ := h
    have dx := x.desk k hk
    have D1 := x.ok.deskOk hk
    have hi := x.ok.hi
    have ol := others_len (h := h) (k := k)
    refine ⟨_, rfl, x.ob.desks T ⟨_, rfl, c.dk, _, _, _, rfl, rfl, .of x.dk, atI_nat (refs_get hk), ?_⟩⟩
    refine ⟨_, rfl, dx.ob.greatest T ⟨by show 1 ≤ sizeLine; decide, fun p1 n1 => ?_⟩⟩
    have s1 : Same H (upd H p1 (.lst [.int ((h.desk k).clock : Int)])) := same_upd n1
    have e1 : upd H p1 (.lst [.int ((h.desk k).clock : Int)]) p1 = some (.lst [.int ((h.desk k).clock : Int)]) := upd_same
    generalize upd H p1 (.lst [.int ((h.desk k).clock : Int)]) = H1 at s1 e1 ⊢
    refine ⟨_, rfl, _, rfl, c, h, k, rfl, x.same s1, fun H2 o2 s2 n2 h2 => ⟨o2, rfl, ⟨_, .of h2⟩, fun p np => ?_⟩⟩
    refine lc_pick (K := K) (a := o2) (l := others h k) (f := fun (j : Nat) => V.int (j : Int)) (i := 3) (fun _ => true) (fun j => V.int ((Sq36.at_ (h.desk k).heard j : Nat) : Int)) np (.of h2) (by omega) (fun j hj H6 R s6 kR => kR H6 (Same.refl _)) (fun j hj _ H6 R s6 kR => ?_) fun H6 s6 hp => ?_
    · have dy := (x.same (s1.trans (s2.trans s6))).desk k hk
      have hjl : j < (h.desk k).heard.length := by rw [D1.heard]; exact (mem_others.mp hj).1
      exact ⟨_, rfl, dy.ob.heard T ⟨_, rfl, c.ha k, _, _, _, rfl, rfl, .of dy.ha, atI_nat (nums_get hjl), kR H6 (Same.refl _)⟩⟩
    · rw [filter_yes] at hp
      refine ⟨p1, p, _, _, rfl, rfl, s6 _ _ (s2 _ _ e1), hp, Nat.le_of_lt (small_of (by rw [List.length_map]; show 1 + _ ≤ 2000; omega)), fun p3 n3 => ?_⟩
      have e3 : upd H6 p3 (.lst ([V.int ((h.desk k).clock : Int)] ++ (others h k).map fun j => V.int ((Sq36.at_ (h.desk k).heard j : Nat) : Int))) p3 = some (.lst ((((h.desk k).clock : Int) :: (others h k).map fun j => ((Sq36.at_ (h.desk k).heard j : Nat) : Int)).map V.int)) := by
        rw [upd_same, List.map_cons, List.map_map]
        rfl
      refine ⟨p3, _, rfl, .of e3, by simp, fun m hm hl => ?_⟩
      rw [settled_min hm hl]
      exact q _ (s1.trans (s2.trans (s6.trans (same_upd n3))))
def sp_is_sure_of_all (A : Ad) : Sp := fun vs H Q _ => ∃ (c : Cells) (h : Sq36.House) (k : Nat) (d : Sq36.Deed), vs = [.ref c.hs, .int (k : Int), .ref (c.ad d.id)] ∧ HouseAt A c H h ∧ k < h.hands ∧ d ∈ h.all ∧ ∀ (H' : Hp), Same H H' → Q (.bl (sureAll h k d)) H'
theorem all_map (l : List Nat) (p : Nat → Bool) : ((l.map p).all id) = l.all p := by rw [List.all_map]; rfl
theorem ok_is_sure_of_all (T : Txt K mg A D) : FnOk P w K mg base CX0 2 A.f_is_sure_of_all D.d_is_sure_of_all ["house", "desk", "deed"] (sp_is_sure_of_all A) := by
  refine T.f_is_sure_of_all.ok sc_is_sure_of_all (fun vs H Q E h => ?_) (fun cdv ar outer s H vs Q E hr h => have hu := hu_of hr; ⟨_, (pss_cons (ps_set (i := 3) sc_is_sure_of_all.nd rfl (Or.inr rfl) (pe_fld (pe_ix ix_list (pe_fld (pv 0) (by rfl)) (pv 1) (by exact fun _ _ => rfl)) (by rfl)))
    (pss_one (ps_ret (pe_callB (cr_all rfl) (by rfl) T.n_all (by decide +kernel) (pa_cons (pe_lc (own := [("other", 4)]) (g := gName 4) (tt := tYes) (by rfl) sc_is_sure_of_all.nd (pi_list (pe_call (ok_others_of T) (by exact hr.mono (by decide)) (by rfl) T.m_others_of T.f_others_of.kp T.b_others_of .nil pass0 (pa_cons (pv 0) (pa_cons (pv 1) pa_nil)))) (blkOk_by (own := [("other", 4)]) (N := N_is_sure_of_all) (sc := defScope s_is_sure_of_all) (by decide +kernel)) (fun _ _ _ _ _ => pg_name (i := 4) sc_is_sure_of_all.nd rfl (Or.inl rfl)) (fun _ _ _ _ _ => pts_nil) (fun _ _ _ _ _ => (by exact (pe_cmpR op_le (pe_fldK (K := K) (by rfl) (pv 2) (by rfl)) (pe_ix (ixK (K := K) (by rfl)) (pe_ix (ixK (K := K) (by rfl)) (pv 3) (pv 4) (by exact fun _ _ => rfl)) (pe_fldK (K := K) (by rfl) (pv 2) (by rfl)) (by exact fun _ _ => rfl)) (nomark _))))) pa_nil))))), ?_⟩)
  · obtain ⟨c, h, k, d, rfl, _⟩ := h; rfl
  · obtain ⟨c, h, k, d, rfl, x, hk, hd, q⟩ := h
    have dx := x.desk k hk
    have D1 := x.ok.deskOk hk
    have hi := x.ok.hi
    have ol := others_len (h := h) (k := k)
    refine ⟨_, rfl, x.ob.desks T ⟨_, rfl, c.dk, _, _, _, rfl, rfl, .of x.dk, atI_nat (refs_get hk), dx.ob.sure T ?_⟩⟩
    refine ⟨_, rfl, _, rfl, c, h, k, rfl, x, fun H2 o2 s2 n2 h2 => ⟨o2, rfl, ⟨_, .of h2⟩, fun p np => ?_⟩⟩
    refine lc_pick (K := K) (a := o2) (l := others h k) (f := fun (j : Nat) => V.int (j : Int)) (i := 4) (fun _ => true) (fun j => V.bl (Sq36.was (((h.desk k).sure[j]?).getD []) d)) np (.of h2) (by omega) (fun j hj H6 R s6 kR => kR H6 (Same.refl _)) (fun j hj _ H6 R s6 kR => ?_) fun H6 s6 hp => ?_
    · have x6 := x.same (s2.trans s6)
      have dy := x6.desk k hk
      obtain ⟨sw, r, h1⟩ := x6.dd d hd
      have hj' := (mem_others.mp hj).1
      have lj : j < (h.desk k).sure.length := by rw [D1.sure]; exact hj'
      have ls : (((h.desk k).sure[j]?).getD []).length = h.hands := by
        rw [List.getElem?_eq_getElem lj]
        exact D1.sures _ (List.getElem_mem lj)
      have hh : d.stamp.hand < (((h.desk k).sure[j]?).getD []).length := by rw [ls]; exact x.ok.deeds.hand d hd
      refine ⟨_, rfl, h1.ob.rank T ⟨_, rfl, _, rfl, c.sa k, _, _, _, rfl, rfl, .of dy.sa, atI_nat (refs_get hj'), _, rfl, h1.ob.desk T ⟨c.sr k j, _, _, _, rfl, rfl, .of (dy.sr j hj'), atI_nat (nums_get hh), _, _, rfl, rfl, ?_⟩⟩⟩
      have e := kR H6 (Same.refl _)
      unfold Sq36.was at e
      show R (.bl (decide ((d.n : Int) ≤ ((Sq36.at_ (((h.desk k).sure[j]?).getD []) d.stamp.hand : Nat) : Int)))) H6
      rw [dec_le]
      exact e
    · refine ⟨p, (others h k).map fun j => Sq36.was (((h.desk k).sure[j]?).getD []) d, rfl, .of ?_, ?_⟩
      · rw [hp, filter_yes, List.map_map]; rfl
      · rw [all_map]
        exact q H6 (s2.trans s6)
def sp_kept_deeds (A : Ad) : Sp := fun vs H Q _ => ∃ (c : Cells) (h : Sq36.House) (k : Nat), vs = [.ref c.hs, .int (k : Int)] ∧ HouseAt A c H h ∧ k < h.hands ∧ ∀ (H' : Hp) (p : Addr), Same H H' → H p = none → H' p = some (.lst (rfs c.ad (h.kept k))) → Q (.ref p) H'
theorem ok_kept_deeds (T : Txt K mg A D) : FnOk P w K mg base CX0 5 A.f_kept_deeds D.d_kept_deeds ["house", "desk"] (sp_kept_deeds A) := by
  refine T.f_kept_deeds.ok sc_kept_deeds (fun vs H Q E h => ?_) (fun cdv ar outer s H vs Q E hr h => have hu := hu_of hr; ⟨_, (pss_cons (ps_set (i := 2) sc_kept_deeds.nd rfl (Or.inr rfl) (pe_fld (pe_ix ix_list (pe_fld (pv 0) (by rfl)) (pv 1) (by exact fun _ _ => rfl)) (by rfl)))
    (pss_one (ps_ret (pe_lc (own := [("deed", 3)]) (g := gName 3)  (by rfl) sc_kept_deeds.nd (pi_list (pe_call (ok_had T) (by exact hr.mono (by decide)) (by rfl) T.m_had T.f_had.kp T.b_had .nil pass0 (pa_cons (pv 0) (pa_cons (pv 1) pa_nil)))) (blkOk_by (own := [("deed", 3)]) (N := N_kept_deeds) (sc := defScope s_kept_deeds) (by decide +kernel)) (fun _ _ _ _ _ => pg_name (i := 3) sc_kept_deeds.nd rfl (Or.inl rfl)) (fun _ _ _ _ _ => pts_one (by exact (pt_cmp (pc_dnotin (by exact hu) (pe_fldK (K := K) (by rfl) (pv 3) (by rfl)) (pv 2))))) (fun _ _ _ _ _ => (by exact (pv 3))))))), ?_⟩)
  · obtain ⟨c, h, k, rfl, _⟩ := h; rfl
  · obtain ⟨c, h, k, rfl, x, hk, q⟩ := h
    have dx := x.desk k hk
    have wl := (x.ok.wf k).len
    obtain ⟨kvs, f1, f2, f3⟩ := x.fa k hk
    refine ⟨_, rfl, x.ob.desks T ⟨_, rfl, c.dk, _, _, _, rfl, rfl, .of x.dk, atI_nat (refs_get hk), dx.ob.forgotten T ?_⟩⟩
    refine ⟨_, rfl, _, rfl, c, h, k, rfl, x, hk, fun H2 o2 s2 n2 h2 => ⟨o2, rfl, ⟨_, .of h2⟩, fun p np => ?_⟩⟩
    refine lc_pick (K := K) (a := o2) (l := h.had k) (f := rf c.ad) (i := 3) (fun d => !((h.had k).take (h.desk k).gone).any fun e => e.id == d.id) (rf c.ad) np (.of h2) (by omega) (fun d hd H6 R s6 kR => ?_) (fun d hd _ H6 R s6 kR => ⟨_, rfl, kR H6 (Same.refl _)⟩) fun H6 s6 hp => q H6 p (s2.trans s6) (s2.free np) ?_
    · obtain ⟨sw, r, h1⟩ := had_dd (x.same (s2.trans s6)) k d hd
      have e := kR H6 (Same.refl _)
      rw [← f3] at e
      exact ⟨_, rfl, h1.ob.number T ⟨_, rfl, c.fa k, _, rfl, DGet.k (k := Sum.inl (d.id : Int)) (s6 _ _ (s2 _ _ f1)), _, rfl, e⟩⟩
    · rw [hp, kept_filter (x.ok.had_ids k)]
      rfl
def sp_ripe_deeds (A : Ad) : Sp := fun vs H Q _ => ∃ (c : Cells) (h : Sq36.House) (k : Nat), vs = [.ref c.hs, .int (k : Int)] ∧ HouseAt A c H h ∧ k < h.hands ∧ ∀ (H' : Hp) (p : Addr), Same H H' → H p = none → H' p = some (.lst (rfs c.ad (h.ripe k))) → Q (.ref p) H'
theorem ok_ripe_deeds (T : Txt K mg A D) : FnOk P w K mg base CX0 6 A.f_ripe_deeds D.d_ripe_deeds ["house", "desk"] (sp_ripe_deeds A) := by
  refine T.f_ripe_deeds.ok sc_ripe_deeds (fun vs H Q E h => ?_) (fun cdv ar outer s H vs Q E hr h => have hu := hu_of hr; ⟨_, (pss_cons (ps_set (i := 2) sc_ripe_deeds.nd rfl (Or.inl rfl) (pe_call (ok_settled_count T) (by exact hr.mono (by decide)) (by rfl) T.m_settled_count T.f_settled_count.kp T.b_settled_count .nil pass0 (pa_cons (pv 0) (pa_cons (pv 1) pa_nil))))
    (pss_cons (ps_set (i := 3) sc_ripe_deeds.nd rfl (Or.inl rfl) (pe_lst pa_nil))
    (pss_cons (ps_for PassesOwn.never rfl (pi_list (pe_call (ok_kept_deeds T) (by exact hr.mono (by decide)) (by rfl) T.m_kept_deeds T.f_kept_deeds.kp T.b_kept_deeds .nil pass0 (pa_cons (pv 0) (pa_cons (pv 1) pa_nil)))) (pg_name (i := 4) sc_ripe_deeds.nd rfl (Or.inl rfl))
      (pss_cons (ps_if (PW.pt (pw_or (pt_cmpR op_gt (pe_op op_add (pe_fld (pv 4) (by rfl)) (pe_glob (v := .int (20)) (by rfl) (Classical.choose_spec T.g_REACH) ⟨_, rfl⟩)) (pv 2) (nomark _)) (pw_or1 (pt_not (pt_val (pe_call (ok_is_sure_of_all T) (by exact hr.mono (by decide)) (by rfl) T.m_is_sure_of_all T.f_is_sure_of_all.kp T.b_is_sure_of_all .nil pass0 (pa_cons (pv 0) (pa_cons (pv 1) (pa_cons (pv 4) pa_nil)))))))))
      (pss_one (ps_ret (pv 3)))
      pss_nil)
    (pss_one (ps_expr (pe_bm PySem.F.plainAttrs_list PySem.F.slot_list_append PySem.F.type_list_append mt_append (pv 3) (pa_cons (pv 4) pa_nil))))))
    (pss_one (ps_ret (pv 3)))))), ?_⟩)
  · obtain ⟨c, h, k, rfl, _⟩ := h; rfl
  · obtain ⟨c, h, k, rfl, x, hk, q⟩ := h
    have wl := (x.ok.wf k).len
    have kl : (h.kept k).length ≤ 100 := by
      unfold Sq36.House.kept
      rw [List.length_drop]; omega
    have ks : ∀ d ∈ h.kept k, d ∈ h.had k := fun d hd => List.mem_of_mem_drop hd
    rw [ripe_eq x.ok] at q
    refine ⟨_, rfl, _, rfl, c, h, k, rfl, x, hk, fun H1 s1 => ⟨Nat.zero_le _, fun rp nrp => ?_⟩⟩
    have s2 : Same H1 (upd H1 rp (.lst [])) := same_upd nrp
    have e2 : upd H1 rp (.lst []) rp = some (.lst []) := upd_same
    generalize upd H1 rp (.lst []) = H2 at s2 e2 ⊢
    have n0rp : H rp = none := s1.free nrp
    refine ⟨_, rfl, _, rfl, c, h, k, rfl, x.same (s1.trans s2), hk, fun H3 kp s3 nkp hkp => ?_⟩
    have kprp : kp ≠ rp := fun z => by rw [z, e2] at nkp; cases nkp
    have s03 := s1.trans (s2.trans s3)
    refine ⟨kp, rfl, ⟨_, .of hkp⟩, for_list (K := K) (a := kp) (xs := rfs c.ad (h.kept k)) (fun i σ H' => ∃ v : Option V, σ = [some (.ref c.hs), some (.int (k : Int)), some (.int (h.settled k : Int)), some (.ref rp), v] ∧ Same H H' ∧ H' kp = some (.lst (rfs c.ad (h.kept k))) ∧ H' rp = some (.lst (rfs c.ad ((h.kept k).take i))) ∧ (h.kept k).takeWhile (isRipe h k) = (h.kept k).take i ++ ((h.kept k).drop i).takeWhile (isRipe h k))
      ⟨none, rfl, s03, hkp, s3 _ _ e2, rfl⟩ (fun i σ H' _ ⟨_, _, _, z, _⟩ => .of z) ?_ ?_⟩
    · rintro i v σ H' hx ⟨v4, rfl, s5, hk5, hr5, er⟩
      obtain ⟨d, hd, rfl⟩ := rfs_get hx
      have hm := ks d (List.mem_of_getElem? hd)
      have hma := (x.ok.mem_had.mp hm).1
      have x5 := x.same s5
      obtain ⟨sw, r, h1⟩ := x5.dd d hma
      obtain ⟨hlt, hge⟩ := List.getElem?_eq_some_iff.mp hd
      rw [List.drop_eq_getElem_cons hlt, hge] at er
      refine ⟨_, rfl, h1.ob.count T ⟨_, _, rfl, rfl, _, rfl, _, _, rfl, rfl, _, rfl, ?_⟩⟩
      have g : decide ((h.settled k : Int) < (d.stamp.count : Int) + 20) = decide (h.settled k < d.stamp.count + 20) := by
        have := dec_lt (h.settled k) (d.stamp.count + 20)
        rw [← this]
        congr 1
      have back : isRipe h k d = false → ∀ H8, Same H' H8 → Q (.ref rp) H8 := fun nr H8 s8 => by
        rw [List.takeWhile_cons_of_neg (by rw [nr]; exact Bool.false_ne_true), List.append_nil] at er
        refine q H8 rp (s5.trans s8) n0rp ?_
        rw [s8 _ _ hr5, er]
      by_cases c1 : h.settled k < d.stamp.count + 20
      · rw [decide_eq_true c1] at g
        exact if_true' g (iteT ⟨_, rfl, back (by unfold isRipe; rw [decide_eq_true c1]; rfl) H' (Same.refl _)⟩)
      rw [decide_eq_false c1] at g
      refine if_false' g ⟨_, rfl, _, rfl, _, rfl, c, h, k, d, rfl, x5, hk, hma, fun H8 s8 => ⟨_, rfl, ?_⟩⟩
      cases c2 : sureAll h k d with
      | false => exact iteT ⟨_, rfl, back (by unfold isRipe; rw [decide_eq_false c1, c2]; rfl) H8 s8⟩
      | true =>
        have ri : isRipe h k d = true := by unfold isRipe; rw [decide_eq_false c1, c2]; rfl
        have hr8 := s8 _ _ hr5
        refine iteF ⟨_, rfl, .inl ⟨rfl, _, .of hr8⟩, _, rfl, rp, _, _, rfl, rfl, hr8, small_of (by rw [rfs_len, List.length_take]; omega), ?_⟩
        refine ⟨_, rfl, same_upd2 (s5.trans s8) n0rp, (by rw [upd_ne kprp]; exact s8 _ _ hk5), ?_, ?_⟩
        · rw [upd_same, take_snoc hd]
          unfold rfs
          rw [List.map_append]
          rfl
        · rw [er, List.takeWhile_cons_of_pos ri, take_snoc hd, List.append_assoc]
          rfl
    · rintro σ H' ⟨v4, rfl, s5, hk5, hr5, er⟩
      rw [rfs_len, List.take_length, List.drop_length] at er
      rw [rfs_len, List.take_length] at hr5
      refine ⟨_, rfl, q H' rp s5 n0rp ?_⟩
      rw [hr5, er, List.takeWhile_nil, List.append_nil]
/-! ### forget, kept -/
theorem HouseAt.forgot {c : Cells} {H H' : Hp} {h : Sq36.House} {k : Nat} (x : HouseAt A c H h) (hk : k < h.hands) (o : ∀ b, b ≠ c.fa k → H' b = H b) (f : FaAt H' (c.fa k) ((h.had k).take ((h.desk k).gone + (h.ripe k).length))) : HouseAt A c H' (forgot h k) := by
  have mfa : c.M0 h.hands (c.fa k) := c.inM (.fa k) hk
  have kp : Keep (c.M0 h.hands) H H' := fun b u nb e => by rw [o b (fun z => nb (z ▸ mfa))]; exact e
  have stay : ∀ t : Slot, t.In h.hands → t ≠ .fa k → H' (c.sl t) = H (c.sl t) := fun t ht nt => o _ (x.apart.ne t (.fa k) ht hk nt)
  have okn : Ok (Ho.forgot h k) := by
    refine x.ok.setDesk fun hk => ?_
    have D := x.ok.deskOk hk
    exact ⟨D.has, D.own, D.sure, D.sures, D.heard⟩
  have dsk : ∀ j, j < h.hands → DeskAt A c H' h.hands j (h.desk j) := fun j hj => by
    have d := x.desk j hj
    refine ⟨?_, ?_, ?_, ?_, fun i hi => kp.up _ _ (d.nsr i hi) (d.sr i hi), d.nsr⟩
    · obtain ⟨dx, e⟩ := d.ob
      exact ⟨dx, (stay (.da j) hj (fun z => by cases z)).trans e⟩
    · exact (stay (.ca j) hj (fun z => by cases z)).trans d.ca
    · exact (stay (.sa j) hj (fun z => by cases z)).trans d.sa
    · exact (stay (.ha j) hj (fun z => by cases z)).trans d.ha
  refine ⟨okn, ?_, kp.up _ _ x.ndk x.dk, x.ndk, (stay .dl trivial (fun z => by cases z)).trans x.dl, x.dd.keep kp.up, (stay .lt trivial (fun z => by cases z)).trans x.lt, fun j hj => ?_, fun i m hm => let ⟨ns, q⟩ := x.letter i m hm; ⟨ns, q.keep kp.up⟩, x.apart, (fun b hb z => ?_), x.late.forgot x.ok hk, fun j hj => ?_⟩
  · obtain ⟨dx, e⟩ := x.ob
    exact ⟨dx, (stay .hs trivial (fun z => by cases z)).trans e⟩
  · have hj' : j < h.hands := hj
    rw [forgot_desk x.ok hk]
    by_cases e : j = k
    · subst e
      rw [if_pos rfl]
      have d := dsk j hj'
      exact ⟨d.ob, d.ca, d.sa, d.ha, d.sr, d.nsr⟩
    · rw [if_neg e]; exact dsk j hj'
  · cases y : H b with
    | none => exact x.frt b hb y
    | some u => rw [kp b u (x.apart.fr b hb) y] at z; cases z
  · have hj' : j < h.hands := hj
    rw [forgot_had x.ok hk, forgot_desk x.ok hk]
    by_cases e : j = k
    · subst e
      rw [if_pos rfl]
      exact f
    · rw [if_neg e]
      refine (x.fa j hj').keep fun u eu => ?_
      exact (stay (.fa j) hj' (fun z => by cases z; exact e rfl)).trans eu
def sp_forget (A : Ad) : Sp := fun vs H Q _ => ∃ (c : Cells) (h : Sq36.House) (k : Nat), vs = [.ref c.hs, .int (k : Int)] ∧ HouseAt A c H h ∧ Res A c h H (h.step (.forget k)) Q
theorem ok_forget (T : Txt K mg A D) : FnOk P w K mg base CX0 7 A.f_forget D.d_forget ["house", "desk"] (sp_forget A) := by
  refine T.f_forget.ok sc_forget (fun vs H Q E h => ?_) (fun cdv ar outer s H vs Q E hr h => have hu := hu_of hr; ⟨_, (pss_cons (ps_if (pt_not (pt_val (pe_call (ok_has_desk T) (by exact hr.mono (by decide)) (by rfl) T.m_has_desk T.f_has_desk.kp T.b_has_desk .nil pass0 (pa_cons (pv 0) (pa_cons (pv 1) pa_nil)))))
      (pss_one (ps_ret (pe_lst (pa_cons (pe_glob (v := .int (-2)) (by rfl) (Classical.choose_spec T.g_NO_DESK) ⟨_, rfl⟩) pa_nil))))
      pss_nil)
    (pss_cons (ps_set (i := 2) sc_forget.nd rfl (Or.inl rfl) (pe_call (ok_ripe_deeds T) (by exact hr.mono (by decide)) (by rfl) T.m_ripe_deeds T.f_ripe_deeds.kp T.b_ripe_deeds .nil pass0 (pa_cons (pv 0) (pa_cons (pv 1) pa_nil))))
    (pss_cons (ps_set (i := 3) sc_forget.nd rfl (Or.inl rfl) (pe_fld (pe_ix ix_list (pe_fld (pv 0) (by rfl)) (pv 1) (by exact fun _ _ => rfl)) (by rfl)))
    (pss_cons (ps_for PassesOwn.never rfl (pi_list (pv 2)) (pg_name (i := 4) sc_forget.nd rfl (Or.inl rfl))
      (pss_one (ps_dput (by exact hu) (pv 3) (pe_fld (pv 4) (by rfl)) pe_bl (by rfl))))
    (pss_one (ps_ret (pe_lst (pa_cons (pe_callB call_len_seq (by rfl) T.n_len PySem.boot_len (pa_cons (pv 2) pa_nil)) (pa_cons (pe_callB call_lenD (by rfl) T.n_len PySem.boot_len (pa_cons (pv 3) pa_nil)) pa_nil))))))))), ?_⟩)
  · obtain ⟨c, h, k, rfl, _⟩ := h; rfl
  · obtain ⟨c, h, k, rfl, x, res⟩ := h
    have st : h.step (.forget k) = if h.hands ≤ k then (h, Sq36.says (-2)) else (Ho.forgot h k, ⟨(h.ripe k).length, [(((h.desk k).gone + (h.ripe k).length : Nat) : Int)]⟩) := rfl
    refine ⟨_, rfl, _, rfl, c, h, k, rfl, x, _, rfl, ?_⟩
    by_cases hk : k < h.hands
    case neg =>
      rw [decide_eq_false hk]
      exact iteT (refuse x (Same.refl _) res (by rw [st, if_pos (by omega)]))
    rw [decide_eq_true hk]
    rw [st, if_neg (by omega)] at res
    have wl := (x.ok.wf k).len
    have rl : (h.desk k).gone + (h.ripe k).length ≤ (h.had k).length := by
      have h1 := ripe_len h k
      have h2 := x.late.len k hk
      unfold Sq36.House.kept at h1
      rw [List.length_drop] at h1
      omega
    have rs : ∀ d ∈ h.ripe k, d ∈ h.had k := fun d hd => List.mem_of_mem_drop ((List.takeWhile_sublist _).subset hd)
    refine iteF ⟨_, rfl, _, rfl, c, h, k, rfl, x, hk, fun H1 rp s1 nrp hrp => ?_⟩
    have x1 := x.same s1
    have d1 := x1.desk k hk
    obtain ⟨kvs0, f1, f2, f3⟩ := x1.fa k hk
    have gl : ((h.had k).take (h.desk k).gone).length = (h.desk k).gone := by rw [List.length_take]; have := x.late.len k hk; omega
    have rpfa : rp ≠ c.fa k := fun z => by rw [z, f1] at hrp; cases hrp
    refine ⟨_, rfl, x1.ob.desks T ⟨_, rfl, c.dk, _, _, _, rfl, rfl, .of x1.dk, atI_nat (refs_get hk), d1.ob.forgotten T ?_⟩⟩
    have ids : ((h.had k).map (·.id)).Nodup := x.ok.had_ids k
    refine ⟨_, rfl, rp, rfl, ⟨_, .of hrp⟩, for_list (K := K) (a := rp) (xs := rfs c.ad (h.ripe k)) (fun i σ H' => ∃ (v : Option V) (kvs : List (Key × V)), σ = [some (.ref c.hs), some (.int (k : Int)), some (.ref rp), some (.ref (c.fa k)), v] ∧ (∀ b, b ≠ c.fa k → H' b = H1 b) ∧ H' (c.fa k) = some (.dK kvs) ∧ kvs.length = (h.desk k).gone + min i (h.ripe k).length ∧ ∀ y : Nat, (valV kvs (Sum.inl (y : Int))).isSome = ((h.had k).take (h.desk k).gone ++ (h.ripe k).take i).any fun d => d.id == y)
      ⟨none, kvs0, rfl, fun b _ => rfl, f1, (by rw [f2, gl, Nat.zero_min, Nat.add_zero]), fun y => by rw [f3, List.take_zero, List.append_nil]⟩ (fun i σ H' _ ⟨_, _, _, o, _⟩ => .of ((o rp rpfa).trans hrp)) ?_ ?_⟩
    · rintro i v σ H' hx ⟨v4, kvs, rfl, o, fk, fl, fv⟩
      obtain ⟨d, hd, rfl⟩ := rfs_get hx
      have hlt := (List.getElem?_eq_some_iff.mp hd).1
      have hm := rs d (List.mem_of_getElem? hd)
      have mfa : c.M0 h.hands (c.fa k) := c.inM (.fa k) hk
      have kp : Keep (c.M0 h.hands) H1 H' := fun b u nb e => by rw [o b (fun z => nb (z ▸ mfa))]; exact e
      obtain ⟨sw, r, h1⟩ := ((had_dd x1 k).keep kp.up) d hm
      refine ⟨_, rfl, _, rfl, h1.ob.number T ⟨c.fa k, _, rfl, DPut.k (k := Sum.inl (d.id : Int)) fk (small_of (by omega)), ?_⟩⟩
      have nv : valV kvs (Sum.inl (d.id : Int)) = none := by
        have z := fv d.id
        have n : (((h.had k).take (h.desk k).gone ++ (h.ripe k).take i).any fun e => e.id == d.id) = false := by
          rw [List.any_eq_false]
          intro e he z
          have hz := eq_of_beq z
          have all : (h.had k).take ((h.desk k).gone + (h.ripe k).length) = ((h.had k).take (h.desk k).gone ++ (h.ripe k).take i) ++ d :: (h.ripe k).drop (i + 1) := by
            rw [ripe_take, List.append_assoc]
            congr 1
            exact take_split hd
          have nd : (((h.had k).take ((h.desk k).gone + (h.ripe k).length)).map (·.id)).Nodup := List.Nodup.sublist (List.Sublist.map _ (List.take_sublist _ _)) ids
          rw [all, List.map_append, List.nodup_append] at nd
          exact nd.2.2 e.id (List.mem_map.mpr ⟨e, he, rfl⟩) d.id (by rw [List.map_cons]; exact List.mem_cons_self) hz
        rw [n] at z
        cases y : valV kvs (Sum.inl (d.id : Int)) with
        | none => rfl
        | some u => rw [y] at z; cases z
      refine ⟨_, _, rfl, (fun b hb => by rw [upd_ne hb]; exact o b hb), upd_same, ?_, fun y => ?_⟩
      · rw [putK_new _ nv, List.length_append, List.length_singleton]
        omega
      · rw [valV_put, take_snoc hd, ← List.append_assoc, List.any_append, ← fv y]
        by_cases e : d.id = y
        · subst e
          rw [if_pos rfl]
          simp
        · rw [if_neg (fun z => e (by injection z with z; omega))]
          have : (d.id == y) = false := beq_eq_false_iff_ne.mpr e
          simp [this]
    · rintro σ H' ⟨v4, kvs, rfl, o, fk, fl, fv⟩
      rw [rfs_len, Nat.min_self] at fl
      rw [rfs_len, List.take_length] at fv
      have mfa : c.M0 h.hands (c.fa k) := c.inM (.fa k) hk
      have kp : Keep (c.M0 h.hands) H1 H' := fun b u nb e => by rw [o b (fun z => nb (z ▸ mfa))]; exact e
      have f' : FaAt H' (c.fa k) ((h.had k).take ((h.desk k).gone + (h.ripe k).length)) := by
        refine ⟨kvs, fk, ?_, fun y => ?_⟩
        · rw [fl, List.length_take]; omega
        · rw [fv, ripe_take]
      have x' := x1.forgot hk o f'
      have hrp' : H' rp = some (.lst (rfs c.ad (h.ripe k))) := (o rp rpfa).trans hrp
      refine ⟨_, rfl, rp, _, rfl, .inl (.of hrp'), _, rfl, c.fa k, _, rfl, fk, by show 2 ≤ sizeLine; decide, finish x res rfl rfl rfl rfl (fun b u nb e => kp b u nb (s1 _ _ e)) x' ?_⟩
      rw [rfs_len, fl]
      rfl
def sp_ask_kept (A : Ad) : Sp := fun vs H Q _ => ∃ (c : Cells) (h : Sq36.House) (k : Nat), vs = [.ref c.hs, .int (k : Int)] ∧ HouseAt A c H h ∧ Res A c h H (h.step (.kept k)) Q
theorem ok_ask_kept (T : Txt K mg A D) : FnOk P w K mg base CX0 7 A.f_ask_kept D.d_ask_kept ["house", "desk"] (sp_ask_kept A) := by
  refine T.f_ask_kept.ok sc_ask_kept (fun vs H Q E h => ?_) (fun cdv ar outer s H vs Q E hr h => have hu := hu_of hr; ⟨_, (pss_cons (ps_if (pt_not (pt_val (pe_call (ok_has_desk T) (by exact hr.mono (by decide)) (by rfl) T.m_has_desk T.f_has_desk.kp T.b_has_desk .nil pass0 (pa_cons (pv 0) (pa_cons (pv 1) pa_nil)))))
      (pss_one (ps_ret (pe_lst (pa_cons (pe_glob (v := .int (-2)) (by rfl) (Classical.choose_spec T.g_NO_DESK) ⟨_, rfl⟩) pa_nil))))
      pss_nil)
    (pss_cons (ps_set (i := 2) sc_ask_kept.nd rfl (Or.inl rfl) (pe_callB call_len_seq (by rfl) T.n_len PySem.boot_len (pa_cons (pe_call (ok_kept_deeds T) (by exact hr.mono (by decide)) (by rfl) T.m_kept_deeds T.f_kept_deeds.kp T.b_kept_deeds .nil pass0 (pa_cons (pv 0) (pa_cons (pv 1) pa_nil))) pa_nil)))
    (pss_one (ps_ret (pe_lst (pa_cons (pv 2) (pa_cons (pe_callB call_len_seq (by rfl) T.n_len PySem.boot_len (pa_cons (pe_call (ok_ripe_deeds T) (by exact hr.mono (by decide)) (by rfl) T.m_ripe_deeds T.f_ripe_deeds.kp T.b_ripe_deeds .nil pass0 (pa_cons (pv 0) (pa_cons (pv 1) pa_nil))) pa_nil)) (pa_cons (pe_call (ok_settled_count T) (by exact hr.mono (by decide)) (by rfl) T.m_settled_count T.f_settled_count.kp T.b_settled_count .nil pass0 (pa_cons (pv 0) (pa_cons (pv 1) pa_nil))) (pa_cons (pe_callB call_lenD (by rfl) T.n_len PySem.boot_len (pa_cons (pe_fld (pe_ix ix_list (pe_fld (pv 0) (by rfl)) (pv 1) (by exact fun _ _ => rfl)) (by rfl)) pa_nil)) pa_nil))))))))), ?_⟩)
  · obtain ⟨c, h, k, rfl, _⟩ := h; rfl
  · obtain ⟨c, h, k, rfl, x, res⟩ := h
    have st : h.step (.kept k) = if h.hands ≤ k then (h, Sq36.says (-2)) else (h, ⟨(h.kept k).length, Sq36.ints [(h.ripe k).length, h.settled k, (h.desk k).gone]⟩) := rfl
    refine ⟨_, rfl, _, rfl, c, h, k, rfl, x, _, rfl, ?_⟩
    by_cases hk : k < h.hands
    case neg =>
      rw [decide_eq_false hk]
      exact iteT (refuse x (Same.refl _) res (by rw [st, if_pos (by omega)]))
    rw [decide_eq_true hk]
    rw [st, if_neg (by omega)] at res
    refine iteF ⟨_, rfl, _, rfl, c, h, k, rfl, x, hk, fun H1 p1 s1 n1 h1 => ⟨p1, _, rfl, .inl (.of h1), ?_⟩⟩
    refine ⟨_, rfl, _, rfl, _, rfl, c, h, k, rfl, x.same s1, hk, fun H2 p2 s2 n2 h2 => ⟨p2, _, rfl, .inl (.of h2), ?_⟩⟩
    refine ⟨_, rfl, _, rfl, c, h, k, rfl, x.same (s1.trans s2), hk, fun H3 s3 => ?_⟩
    have s03 := s1.trans (s2.trans s3)
    have x3 := x.same s03
    obtain ⟨kvs, f1, f2, f3⟩ := x3.fa k hk
    refine ⟨_, rfl, x3.ob.desks T ⟨_, rfl, c.dk, _, _, _, rfl, rfl, .of x3.dk, atI_nat (refs_get hk), (x3.desk k hk).ob.forgotten T ⟨c.fa k, _, rfl, f1, by show 4 ≤ sizeLine; decide, fun p np => answer x (s03.trans (same_upd np)) res (s03.free np) ?_⟩⟩⟩
    rw [upd_same, rfs_len, rfs_len, f2, List.length_take, Nat.min_eq_left (x.late.len k hk)]
    rfl
end
end Ho
end

section
set_option Elab.async false
set_option maxRecDepth 100000
set_option maxHeartbeats 4000000
/-! greater_of_each, hear, comes -/
namespace Ho
open PySem PySem.W PyProof.Rows L2
/-- the cells behind a letter that came -/
def cellsC (c : Cells) (t src : Nat) (nc nr : Addr) : Cells := { c with ca := fun j => if j = t then nc else c.ca j, sr := fun j => if j = t then (fun i => if i = src then nr else c.sr t i) else c.sr j }
theorem cellsC_sl (c : Cells) (t src : Nat) (nc nr : Addr) (s : Slot) : (s = .ca t ∧ (cellsC c t src nc nr).sl s = nc) ∨ (s ≠ .ca t ∧ (cellsC c t src nc nr).sl s = c.sl s) := by
  cases s with
  | ca j =>
    by_cases e : j = t
    · subst e; exact .inl ⟨rfl, if_pos rfl⟩
    · exact .inr ⟨(fun z => by cases z; exact e rfl), if_neg e⟩
  | hs => exact .inr ⟨(fun z => by cases z), rfl⟩
  | dl => exact .inr ⟨(fun z => by cases z), rfl⟩
  | lt => exact .inr ⟨(fun z => by cases z), rfl⟩
  | da j => exact .inr ⟨(fun z => by cases z), rfl⟩
  | sa j => exact .inr ⟨(fun z => by cases z), rfl⟩
  | ha j => exact .inr ⟨(fun z => by cases z), rfl⟩
  | fa j => exact .inr ⟨(fun z => by cases z), rfl⟩
theorem refs_set {f : Nat → Addr} {n i : Nat} {a : Addr} : (refs f n).set i (.ref a) = refs (fun j => if j = i then a else f j) n := by
  unfold refs
  refine List.ext_getElem (by simp) fun j h1 h2 => ?_
  rw [List.getElem_set]
  simp only [List.getElem_map, List.getElem_range]
  by_cases e : i = j
  · subst e; rw [if_pos rfl, if_pos rfl]
  · rw [if_neg e, if_neg (fun z => e z.symm)]
section
variable {P : Program} {w : World} {K : PySem.W.Frag} {mg : Str → Option Value} {base : Heap} {A : Ad} {D : Fd}
theorem HouseAt.came {c : Cells} {H H6 : Hp} {h : Sq36.House} {m : Sq36.Letter} {nc nr : Addr} (x : HouseAt A c H h) (hm : m ∈ h.letters) (n0c : H nc = none) (n0r : H nr = none)
    (at6 : ∀ b o, H b = some o → b ≠ c.da m.to → b ≠ c.sa m.to → b ≠ c.ha m.to → H6 b = some o)
    (da6 : obDesk A H6 (c.da m.to) (.int ((max (h.desk m.to).clock m.clock : Nat) : Int)) (.ref nc) (.ref (c.sa m.to)) (.ref (c.ha m.to)) (.ref (c.fa m.to)))
    (nc6 : H6 nc = some (.lst (nums (Sq36.most (h.desk m.to).has m.has)))) (nr6 : H6 nr = some (.lst (nums (Sq36.most (((h.desk m.to).sure[m.from_]?).getD []) m.has)))) (cr : nr ≠ nc)
    (sa6 : H6 (c.sa m.to) = some (.lst ((refs (c.sr m.to) h.hands).set m.from_ (.ref nr))))
    (ha6 : H6 (c.ha m.to) = some (.lst (nums ((h.desk m.to).heard.set m.from_ (max (Sq36.at_ (h.desk m.to).heard m.from_) m.clock))))) :
    HouseAt A (cellsC c m.to m.from_ nc nr) H6 (Ho.came h m) ∧ (∀ b o, ¬ c.M0 h.hands b → H b = some o → H6 b = some o ∧ ¬ (cellsC c m.to m.from_ nc nr).M0 h.hands b) := by
  have L := x.ok.letters m hm
  have ht := L.dst
  have D1 := x.ok.deskOk ht
  have nM0 : ∀ b o, H b = some o → ¬ c.M0 h.hands b → ¬ (cellsC c m.to m.from_ nc nr).M0 h.hands b := fun b o e n z => by
    obtain ⟨s, hs, q⟩ := z
    rcases cellsC_sl c m.to m.from_ nc nr s with ⟨_, g⟩ | ⟨_, g⟩
    · rw [q, g, n0c] at e; cases e
    · exact n ⟨s, hs, q.trans g⟩
  have nM : ∀ b o, H b = some o → ¬ c.M h.hands b → ¬ (cellsC c m.to m.from_ nc nr).M h.hands b := fun b o e n z => z.elim (nM0 b o e fun q => n (.inl q)) fun q => n (.inr q)
  have kp : Keep (c.M0 h.hands) H H6 := fun b o n e => at6 b o e (fun z => n (z ▸ c.inM (.da m.to) ht)) (fun z => n (z ▸ c.inM (.sa m.to) ht)) (fun z => n (z ▸ c.inM (.ha m.to) ht))
  have st : ∀ s : Slot, s.In h.hands → s ≠ .da m.to → s ≠ .sa m.to → s ≠ .ha m.to → ∀ o, H (c.sl s) = some o → H6 (c.sl s) = some o := fun s hs h1 h2 h3 o e => at6 _ o e (x.apart.ne s (.da m.to) hs ht h1) (x.apart.ne s (.sa m.to) hs ht h2) (x.apart.ne s (.ha m.to) hs ht h3)
  refine ⟨⟨x.ok.comes hm, ?_, kp.up _ _ x.ndk x.dk, nM _ _ x.dk x.ndk, st .dl trivial (fun z => by cases z) (fun z => by cases z) (fun z => by cases z) _ x.dl, fun d hd => ?_, st .lt trivial (fun z => by cases z) (fun z => by cases z) (fun z => by cases z) _ x.lt, fun j hj => ?_, fun i l hl => ?_, ⟨fun s1 s2 h1 h2 e => ?_, fun b fb => ?_⟩, (fun b fb z => ?_), x.late.came x.ok hm, fun j hj => ?_⟩, fun b o n e => ⟨kp b o n e, nM0 b o e n⟩⟩
  · obtain ⟨dx, e⟩ := x.ob
    exact ⟨dx, st .hs trivial (fun z => by cases z) (fun z => by cases z) (fun z => by cases z) _ e⟩
  · obtain ⟨sw, r, q⟩ := x.dd d hd
    have q' := q.keep kp.up
    refine ⟨sw, r, q'.ob, q'.saw, q'.act, ?_, nM _ _ q.saw q.nsw, ?_⟩
    · obtain ⟨dx, e⟩ := q.ob; exact nM _ _ e q.na
    · have := q.act
      have hr : ∃ u, H r = some u := by
        cases ea : d.act <;> rw [ea] at this <;> (obtain ⟨dx, e⟩ := this; exact ⟨_, e⟩)
      obtain ⟨u, e⟩ := hr
      exact nM _ _ e q.nr
  · have hj' : j < h.hands := hj
    have d := x.desk j hj'
    rw [came_desk x.ok ht]
    by_cases e : j = m.to
    · subst e
      rw [if_pos rfl]
      have ec : (cellsC c m.to m.from_ nc nr).ca m.to = nc := if_pos rfl
      have er : (cellsC c m.to m.from_ nc nr).sr m.to = fun i => if i = m.from_ then nr else c.sr m.to i := if_pos rfl
      refine ⟨?_, ?_, ?_, ha6, fun i hi => ?_, fun i hi => ?_⟩
      · rw [ec]; exact da6
      · rw [ec]; exact nc6
      · rw [er]
        show H6 (c.sa m.to) = _
        rw [sa6, refs_set]
        rfl
      · have hi' : i < h.hands := hi
        rw [er]
        show H6 (if i = m.from_ then nr else c.sr m.to i) = some (.lst (nums ((((h.desk m.to).sure.set m.from_ (Sq36.most (((h.desk m.to).sure[m.from_]?).getD []) m.has))[i]?).getD [])))
        rw [List.getElem?_set]
        by_cases z : i = m.from_
        · subst z
          rw [if_pos rfl, if_pos rfl, if_pos (by rw [D1.sure]; exact hi')]
          exact nr6
        · rw [if_neg z, if_neg (fun y => z y.symm)]
          exact kp.up _ _ (d.nsr i hi') (d.sr i hi')
      · have hi' : i < h.hands := hi
        rw [er]
        show ¬ (cellsC c m.to m.from_ nc nr).M h.hands (if i = m.from_ then nr else c.sr m.to i)
        by_cases z : i = m.from_
        · rw [if_pos z]
          rintro (⟨s, hs, q⟩ | q)
          · rcases cellsC_sl c m.to m.from_ nc nr s with ⟨_, g⟩ | ⟨_, g⟩
            · exact cr (q.trans g)
            · exact x.there (.inl (c.inM s hs)) (by rw [← g, ← q]; exact n0r)
          · exact x.frt nr q n0r
        · rw [if_neg z]
          exact nM _ _ (d.sr i hi') (d.nsr i hi')
    · rw [if_neg e]
      refine d.stand rfl (if_neg e) rfl rfl rfl (if_neg e) (fun s hs => ?_) kp.up nM
      have sin : s.In h.hands := by cases s <;> first | exact hs.elim | (cases hs; exact hj')
      cases y : H (c.sl s) with
      | none => exact absurd y (x.there (.inl (c.inM s sin)))
      | some o => exact st s sin (fun z => by subst z; exact e hs.symm) (fun z => by subst z; exact e hs.symm) (fun z => by subst z; exact e hs.symm) o y
  · obtain ⟨ns, q⟩ := x.letter i l hl
    have q' := q.keep kp.up
    obtain ⟨dx, e⟩ := q.ob
    exact ⟨ns, q'.ob, q'.lc, q'.ln, nM _ _ e q.nla, nM _ _ q.lc q.nlc, nM _ _ q.ln q.nln⟩
  · have h1' : s1.In h.hands := h1
    have h2' : s2.In h.hands := h2
    rcases cellsC_sl c m.to m.from_ nc nr s1 with ⟨a1, g1⟩ | ⟨a1, g1⟩ <;> rcases cellsC_sl c m.to m.from_ nc nr s2 with ⟨a2, g2⟩ | ⟨a2, g2⟩
    · rw [a1, a2]
    · exact absurd (by rw [← g2, ← e, g1]; exact n0c) (x.there (.inl (c.inM s2 h2')))
    · exact absurd (by rw [← g1, e, g2]; exact n0c) (x.there (.inl (c.inM s1 h1')))
    · exact x.apart.inj s1 s2 h1' h2' (by rw [← g1, ← g2]; exact e)
  · cases y : H b with
    | none => exact absurd y (x.frt b fb)
    | some o => exact nM0 b o y (x.apart.fr b fb)
  · cases y : H b with
    | none => exact x.frt b fb y
    | some o => rw [kp b o (x.apart.fr b fb) y] at z; cases z
  · have hj' : j < h.hands := hj
    show FaAt H6 (c.fa j) _
    rw [came_gone x.ok ht, came_take x.ok x.late hm hj']
    exact (x.fa j hj').keep fun o e => st (.fa j) hj' (fun z => by cases z) (fun z => by cases z) (fun z => by cases z) o e
def sp_greater_of_each (A : Ad) : Sp := fun vs H Q _ => ∃ (a b : Addr) (l m : List Nat), vs = [.ref a, .ref b] ∧ H a = some (.lst (nums l)) ∧ H b = some (.lst (nums m)) ∧ l.length = m.length ∧ l.length ≤ 6 ∧ ∀ (H' : Hp) (p : Addr), Same H H' → H p = none → H' p = some (.lst (nums (Sq36.most l m))) → Q (.ref p) H'
theorem ok_greater_of_each (T : Txt K mg A D) : FnOk P w K mg base CX0 1 A.f_greater_of_each D.d_greater_of_each ["counts", "others"] (sp_greater_of_each A) := by
  refine T.f_greater_of_each.ok sc_greater_of_each (fun vs H Q E h => ?_) (fun cdv ar outer s H vs Q E hr h => have hu := hu_of hr; ⟨_, (pss_one (ps_ret (pe_lc (own := [("k", 2)]) (g := gName 2) (tt := tYes) (by rfl) sc_greater_of_each.nd (pi_range1 (by rfl) T.n_range (pa_cons (pe_callB call_len_seq (by rfl) T.n_len PySem.boot_len (pa_cons (pv 0) pa_nil)) pa_nil)) (blkOk_by (own := [("k", 2)]) (N := N_greater_of_each) (sc := defScope s_greater_of_each) (by decide +kernel)) (fun _ _ _ _ _ => pg_name (i := 2) sc_greater_of_each.nd rfl (Or.inl rfl)) (fun _ _ _ _ _ => pts_nil) (fun _ _ _ _ _ => (by exact (pe_callB (call_max2 rfl) (by rfl) T.n_max (by decide +kernel) (pa_cons (pe_ix (ixK (K := K) (by rfl)) (pv 0) (pv 2) (by exact fun _ _ => rfl)) (pa_cons (pe_ix (ixK (K := K) (by rfl)) (pv 1) (pv 2) (by exact fun _ _ => rfl)) pa_nil)))))))), ?_⟩)
  · obtain ⟨a, b, l, m, rfl, _⟩ := h; rfl
  · obtain ⟨a, b, l, m, rfl, ha, hb, hl, h6, q⟩ := h
    refine ⟨_, rfl, a, _, rfl, .inl (.of ha), ?_⟩
    rw [nums_len]
    refine ⟨(l.length : Int), rfl, by omega, by omega, fun p np => ?_⟩
    refine lc_upto (n := l.length) (i := 2) (fun _ => true) (fun (j : Nat) => V.int ((max (Sq36.at_ l j) (Sq36.at_ m j) : Nat) : Int)) np (by omega) (fun j hj H6 R s6 kR => kR H6 (Same.refl _)) (fun j hj _ H6 R s6 kR => ?_) fun H6 s6 hp => q H6 p s6 np ?_
    · refine ⟨_, rfl, _, rfl, a, _, _, _, rfl, rfl, .of (s6 _ _ ha), atI_nat (nums_get hj), _, rfl, _, rfl, b, _, _, _, rfl, rfl, .of (s6 _ _ hb), atI_nat (nums_get (by omega)), _, _, rfl, ?_⟩
      have e : (if ((Sq36.at_ m j : Nat) : Int) > ((Sq36.at_ l j : Nat) : Int) then ((Sq36.at_ m j : Nat) : Int) else ((Sq36.at_ l j : Nat) : Int)) = ((max (Sq36.at_ l j) (Sq36.at_ m j) : Nat) : Int) := by
        split <;> omega
      rw [e]
      exact kR H6 (Same.refl _)
    · rw [hp, filter_yes]
      unfold Sq36.most nums
      rw [List.map_map]
      rfl
def sp_hear (A : Ad) : Sp := fun vs H Q _ => ∃ (c : Cells) (h : Sq36.House) (i : Nat) (m : Sq36.Letter), vs = [.ref (c.da m.to), .ref (c.la i)] ∧ HouseAt A c H h ∧ h.letters[i]? = some m ∧
  ∀ (H' : Hp) (c' : Cells), c'.hs = c.hs → c'.fr = c.fr → c'.la i = c.la i → HouseAt A c' H' (Ho.came h m) → (∀ b o, ¬ c.M0 h.hands b → H b = some o → H' b = some o ∧ ¬ c'.M0 h.hands b) → (∀ b, H' b = none → H b = none) → Q .non H'
theorem max_int (a b : Nat) : (if (b : Int) > (a : Int) then (b : Int) else (a : Int)) = ((max a b : Nat) : Int) := by split <;> omega
set_option maxHeartbeats 8000000 in
theorem ok_hear (T : Txt K mg A D) : FnOk P w K mg base CX0 2 A.f_hear D.d_hear ["desk", "letter"] (sp_hear A) := by
  refine T.f_hear.ok sc_hear (fun vs H Q E h => ?_) (fun cdv ar outer s H vs Q E hr h => have hu := hu_of hr; ⟨_, (pss_cons (ps_fld (pv 0) (pe_call (ok_greater_of_each T) (by exact hr.mono (by decide)) (by rfl) T.m_greater_of_each T.f_greater_of_each.kp T.b_greater_of_each .nil pass0 (pa_cons (pe_fld (pv 0) (by rfl)) (pa_cons (pe_fld (pv 1) (by rfl)) pa_nil))) (by rfl))
    (pss_cons (ps_fld (pv 0) (pe_callB (call_max2 rfl) (by rfl) T.n_max (by decide +kernel) (pa_cons (pe_fld (pv 0) (by rfl)) (pa_cons (pe_fld (pv 1) (by rfl)) pa_nil))) (by rfl))
    (pss_cons (ps_asg (pe_call (ok_greater_of_each T) (by exact hr.mono (by decide)) (by rfl) T.m_greater_of_each T.f_greater_of_each.kp T.b_greater_of_each .nil pass0 (pa_cons (pe_ix ix_list (pe_fld (pv 0) (by rfl)) (pe_fld (pv 1) (by rfl)) (by exact fun _ _ => rfl)) (pa_cons (pe_fld (pv 1) (by rfl)) pa_nil))) (pg_sub (pe_fld (pv 0) (by rfl)) (pe_fld (pv 1) (by rfl)) set_list))
    (pss_one (ps_asg (pe_callB (call_max2 rfl) (by rfl) T.n_max (by decide +kernel) (pa_cons (pe_ix ix_list (pe_fld (pv 0) (by rfl)) (pe_fld (pv 1) (by rfl)) (by exact fun _ _ => rfl)) (pa_cons (pe_fld (pv 1) (by rfl)) pa_nil))) (pg_sub (pe_fld (pv 0) (by rfl)) (pe_fld (pv 1) (by rfl)) set_list)))))), ?_⟩)
  · obtain ⟨c, h, i, m, rfl, _⟩ := h; rfl
  · obtain ⟨c, h, i, m, rfl, x, him, q⟩ := h
    have hm := List.mem_of_getElem? him
    have L := x.ok.letters m hm
    have ht := L.dst
    have D1 := x.ok.deskOk ht
    have dx := x.desk m.to ht
    obtain ⟨ns, lx⟩ := x.letter i m him
    have hi := x.ok.hi
    have ll : m.has.length = h.hands := L.has.len
    have lsrc : m.from_ < (h.desk m.to).sure.length := by rw [D1.sure]; exact L.src
    have ls : (((h.desk m.to).sure[m.from_]?).getD []).length = h.hands := by
      rw [List.getElem?_eq_getElem lsrc]
      exact D1.sures _ (List.getElem_mem lsrc)
    have ap := x.apart
    -- desk.counts
    refine ⟨_, rfl, dx.ob.counts T ⟨_, rfl, lx.ob.counts T ⟨c.ca m.to, c.lc i, _, _, rfl, dx.ca, lx.lc, (by rw [D1.has.len, ll]), (by rw [D1.has.len]; omega), fun H1 nc s1 n1 h1 => ?_⟩⟩⟩
    have dx1 := dx.same s1
    refine ⟨_, rfl, dx1.ob.set_counts T _ fun H2 o2 d2 => ?_⟩
    have ncda : nc ≠ c.da m.to := fun z => by obtain ⟨d, e⟩ := dx.ob; rw [z, e] at n1; cases n1
    have h2 : H2 nc = some (.lst (nums (Sq36.most (h.desk m.to).has m.has))) := by rw [o2 _ ncda]; exact h1
    have up2 : ∀ b o, H b = some o → b ≠ c.da m.to → H2 b = some o := fun b o e n => by rw [o2 b n]; exact s1 _ _ e
    have im : ∀ b, ¬ c.M h.hands b → b ≠ c.da m.to ∧ b ≠ c.sa m.to ∧ b ≠ c.ha m.to := fun b n => ⟨fun z => n (.inl (z ▸ c.inM (.da m.to) ht)), fun z => n (.inl (z ▸ c.inM (.sa m.to) ht)), fun z => n (.inl (z ▸ c.inM (.ha m.to) ht))⟩
    have sada : c.sa m.to ≠ c.da m.to := ap.ne (.sa m.to) (.da m.to) ht ht (fun z => by cases z)
    have hada : c.ha m.to ≠ c.da m.to := ap.ne (.ha m.to) (.da m.to) ht ht (fun z => by cases z)
    have saha : c.sa m.to ≠ c.ha m.to := ap.ne (.sa m.to) (.ha m.to) ht ht (fun z => by cases z)
    have lob2 : obLetter A H2 (c.la i) (.int (m.from_ : Int)) (.int (m.to : Int)) (.ref (c.lc i)) (.int (m.clock : Int)) (.ref (c.ln i)) := by
      obtain ⟨d, e⟩ := lx.ob
      exact ⟨d, up2 _ _ e (im _ lx.nla).1⟩
    -- desk.greatest
    refine ⟨_, rfl, d2.greatest T ⟨_, rfl, lob2.greatest T ⟨_, _, rfl, ?_⟩⟩⟩
    rw [max_int]
    refine ⟨_, rfl, d2.set_greatest T _ fun H3 o3 d3 => ?_⟩
    have h3 : H3 nc = some (.lst (nums (Sq36.most (h.desk m.to).has m.has))) := by rw [o3 _ ncda]; exact h2
    have up3 : ∀ b o, H b = some o → b ≠ c.da m.to → H3 b = some o := fun b o e n => by rw [o3 b n]; exact up2 b o e n
    have lob3 := lob2.other (im _ lx.nla).1 o3
    have sa3 : H3 (c.sa m.to) = some (.lst (refs (c.sr m.to) h.hands)) := up3 _ _ dx.sa sada
    have sr3 : H3 (c.sr m.to m.from_) = some (.lst (nums (((h.desk m.to).sure[m.from_]?).getD []))) := up3 _ _ (dx.sr m.from_ L.src) (im _ (dx.nsr m.from_ L.src)).1
    have lc3 : H3 (c.lc i) = some (.lst (nums m.has)) := up3 _ _ lx.lc (im _ lx.nlc).1
    have ha3 : H3 (c.ha m.to) = some (.lst (nums (h.desk m.to).heard)) := up3 _ _ dx.ha hada
    -- desk.sure[letter.source]
    refine ⟨_, rfl, d3.sure T ⟨_, rfl, lob3.source T ⟨c.sa m.to, _, _, _, rfl, rfl, .of sa3, atI_nat (refs_get L.src), _, rfl, lob3.counts T ⟨c.sr m.to m.from_, c.lc i, _, _, rfl, sr3, lc3, (by rw [ls, ll]), (by rw [ls]; omega), fun H4 nr s4 n4 h4 => ?_⟩⟩⟩⟩
    have d4 := d3.same s4
    have lob4 := lob3.same s4
    have nrda : nr ≠ c.da m.to := fun z => by obtain ⟨d, e⟩ := d3; rw [z, e] at n4; cases n4
    have nrnc : nr ≠ nc := fun z => by rw [z, h3] at n4; cases n4
    have n0r : H nr = none := by
      cases y : H nr with
      | none => rfl
      | some o => rw [up3 nr o y nrda] at n4; cases n4
    refine ⟨_, rfl, d4.sure T ⟨_, rfl, lob4.source T ⟨c.sa m.to, _, _, m.from_, rfl, rfl, s4 _ _ sa3, (by rw [refs_len]; exact ixN_nat L.src), ?_⟩⟩⟩
    have o5 : ∀ b, b ≠ c.sa m.to → upd H4 (c.sa m.to) (.lst ((refs (c.sr m.to) h.hands).set m.from_ (.ref nr))) b = H4 b := fun b hb => upd_ne hb
    have e5 : upd H4 (c.sa m.to) (.lst ((refs (c.sr m.to) h.hands).set m.from_ (.ref nr))) (c.sa m.to) = some (.lst ((refs (c.sr m.to) h.hands).set m.from_ (.ref nr))) := upd_same
    generalize upd H4 (c.sa m.to) (.lst ((refs (c.sr m.to) h.hands).set m.from_ (.ref nr))) = H5 at o5 e5 ⊢
    have d5 := d4.other (Ne.symm sada) o5
    have lob5 := lob4.other (im _ lx.nla).2.1 o5
    have ha5 : H5 (c.ha m.to) = some (.lst (nums (h.desk m.to).heard)) := by rw [o5 _ (Ne.symm saha)]; exact s4 _ _ ha3
    have lh : m.from_ < (h.desk m.to).heard.length := by rw [D1.heard]; exact L.src
    -- desk.heard[letter.source]
    refine ⟨_, rfl, d5.heard T ⟨_, rfl, lob5.source T ⟨c.ha m.to, _, _, _, rfl, rfl, .of ha5, atI_nat (nums_get lh), _, rfl, lob5.greatest T ⟨_, _, rfl, ?_⟩⟩⟩⟩
    rw [max_int]
    refine ⟨_, rfl, d5.heard T ⟨_, rfl, lob5.source T ⟨c.ha m.to, _, _, m.from_, rfl, rfl, ha5, (by rw [nums_len]; exact ixN_nat lh), ?_⟩⟩⟩
    rw [nums_set]
    have o6 : ∀ b, b ≠ c.ha m.to → upd H5 (c.ha m.to) (.lst (nums ((h.desk m.to).heard.set m.from_ (max (Sq36.at_ (h.desk m.to).heard m.from_) m.clock)))) b = H5 b := fun b hb => upd_ne hb
    have e6 : upd H5 (c.ha m.to) (.lst (nums ((h.desk m.to).heard.set m.from_ (max (Sq36.at_ (h.desk m.to).heard m.from_) m.clock)))) (c.ha m.to) = some (.lst (nums ((h.desk m.to).heard.set m.from_ (max (Sq36.at_ (h.desk m.to).heard m.from_) m.clock)))) := upd_same
    generalize upd H5 (c.ha m.to) (.lst (nums ((h.desk m.to).heard.set m.from_ (max (Sq36.at_ (h.desk m.to).heard m.from_) m.clock)))) = H6 at o6 e6 ⊢
    have d6 := d5.other (Ne.symm hada) o6
    have up6 : ∀ b o, H b = some o → b ≠ c.da m.to → b ≠ c.sa m.to → b ≠ c.ha m.to → H6 b = some o := fun b o e h1 h2 h3 => by rw [o6 b h3, o5 b h2]; exact s4 _ _ (up3 b o e h1)
    have ncs : nc ≠ c.sa m.to := fun z => by rw [z, dx.sa] at n1; cases n1
    have nch : nc ≠ c.ha m.to := fun z => by rw [z, dx.ha] at n1; cases n1
    have nrs : nr ≠ c.sa m.to := fun z => by rw [z, dx.sa] at n0r; cases n0r
    have nrh : nr ≠ c.ha m.to := fun z => by rw [z, dx.ha] at n0r; cases n0r
    obtain ⟨x6, f6⟩ := x.came (H6 := H6) hm n1 n0r up6 d6 (by rw [o6 _ nch, o5 _ ncs]; exact s4 _ _ h3) (by rw [o6 _ nrh, o5 _ nrs]; exact h4) nrnc (by rw [o6 _ saha]; exact e5) e6
    refine q H6 (cellsC c m.to m.from_ nc nr) rfl rfl rfl x6 f6 fun b z => ?_
    cases y : H b with
    | none => rfl
    | some o =>
      exfalso
      by_cases c1 : b = c.da m.to
      · obtain ⟨d, e⟩ := d6; rw [c1, e] at z; cases z
      · by_cases c2 : b = c.sa m.to
        · rw [c2, o6 _ saha, e5] at z; cases z
        · by_cases c3 : b = c.ha m.to
          · rw [c3, e6] at z; cases z
          · rw [up6 b o y c1 c2 c3] at z; cases z
def sp_comes (A : Ad) : Sp := fun vs H Q _ => ∃ (c : Cells) (h : Sq36.House) (i : Nat), vs = [.ref c.hs, .int (i : Int)] ∧ HouseAt A c H h ∧ Res A c h H (h.step (.comes i)) Q
theorem sum_nums (l : List Nat) : (l.map fun (n : Nat) => (n : Int)).sum = ((l.sum : Nat) : Int) := by
  induction l with
  | nil => rfl
  | cons x l ih => rw [List.map_cons, List.sum_cons, List.sum_cons, ih]; omega
theorem nums_ints (l : List Nat) : nums l = (l.map fun (n : Nat) => (n : Int)).map V.int := by
  unfold nums
  rw [List.map_map]
  rfl
theorem ok_comes (T : Txt K mg A D) : FnOk P w K mg base CX0 3 A.f_comes D.d_comes ["house", "number"] (sp_comes A) := by
  refine T.f_comes.ok sc_comes (fun vs H Q E h => ?_) (fun cdv ar outer s H vs Q E hr h => have hu := hu_of hr; ⟨_, (pss_cons (ps_if (pt_cmpR op_ge (pv 1) (pe_callB call_len_seq (by rfl) T.n_len PySem.boot_len (pa_cons (pe_fld (pv 0) (by rfl)) pa_nil)) (nomark _))
      (pss_one (ps_ret (pe_lst (pa_cons (pe_glob (v := .int (-2)) (by rfl) (Classical.choose_spec T.g_NO_LETTER) ⟨_, rfl⟩) pa_nil))))
      pss_nil)
    (pss_cons (ps_set (i := 2) sc_comes.nd rfl (Or.inl rfl) (pe_ix ix_list (pe_fld (pv 0) (by rfl)) (pv 1) (by exact fun _ _ => rfl)))
    (pss_cons (ps_set (i := 3) sc_comes.nd rfl (Or.inl rfl) (pe_callB (cr_sum rfl) (by rfl) T.n_sum (by decide +kernel) (pa_cons (pe_fld (pe_ix ix_list (pe_fld (pv 0) (by rfl)) (pe_fld (pv 2) (by rfl)) (by exact fun _ _ => rfl)) (by rfl)) pa_nil)))
    (pss_cons (ps_expr (pe_call (ok_hear T) (by exact hr.mono (by decide)) (by rfl) T.m_hear T.f_hear.kp T.b_hear .nil pass0 (pa_cons (pe_ix ix_list (pe_fld (pv 0) (by rfl)) (pe_fld (pv 2) (by rfl)) (by exact fun _ _ => rfl)) (pa_cons (pv 2) pa_nil))))
    (pss_one (ps_ret (pe_lst (pa_cons (pe_op op_sub (pe_callB (cr_sum rfl) (by rfl) T.n_sum (by decide +kernel) (pa_cons (pe_fld (pe_ix ix_list (pe_fld (pv 0) (by rfl)) (pe_fld (pv 2) (by rfl)) (by exact fun _ _ => rfl)) (by rfl)) pa_nil)) (pv 3)) pa_nil)))))))), ?_⟩)
  · obtain ⟨c, h, i, rfl, _⟩ := h; rfl
  · obtain ⟨c, h, i, rfl, x, res⟩ := h
    refine ⟨_, rfl, _, rfl, x.ob.letters T ⟨c.lt, _, rfl, .inl (.of x.lt), _, _, rfl, rfl, _, rfl, ?_⟩⟩
    rw [refs_len]
    have g : decide ((h.letters.length : Int) ≤ (i : Int)) = decide (h.letters.length ≤ i) := dec_le _ _
    by_cases hi : h.letters.length ≤ i
    · rw [decide_eq_true hi] at g
      refine if_true' g (refuse x (Same.refl _) res ?_)
      have : h.letters[i]? = none := List.getElem?_eq_none hi
      simp only [Sq36.House.step, this]
    rw [decide_eq_false hi] at g
    have hlt : i < h.letters.length := by omega
    obtain ⟨m, him⟩ : ∃ m, h.letters[i]? = some m := ⟨_, List.getElem?_eq_getElem hlt⟩
    rw [came_step h i m him] at res
    have hm := List.mem_of_getElem? him
    have L := x.ok.letters m hm
    have dx := x.desk m.to L.dst
    obtain ⟨ns, lx⟩ := x.letter i m him
    refine if_false' g ⟨_, rfl, x.ob.letters T ⟨_, rfl, c.lt, _, _, _, rfl, rfl, .of x.lt, atI_nat (refs_get hlt), ?_⟩⟩
    have ca : H (c.ca m.to) = some (.lst (((h.desk m.to).has.map fun (n : Nat) => (n : Int)).map V.int)) := by rw [dx.ca, nums_ints]
    refine ⟨_, rfl, x.ob.desks T ⟨_, rfl, lx.ob.target T ⟨c.dk, _, _, _, rfl, rfl, .of x.dk, atI_nat (refs_get L.dst), dx.ob.counts T ⟨c.ca m.to, _, rfl, .of ca, ?_⟩⟩⟩⟩
    rw [sum_nums]
    refine ⟨_, rfl, x.ob.desks T ⟨_, rfl, lx.ob.target T ⟨c.dk, _, _, _, rfl, rfl, .of x.dk, atI_nat (refs_get L.dst), _, rfl, c, h, i, m, rfl, x, him, fun H' c' e1 e2 e3 x' fr' fn' => ?_⟩⟩⟩
    have lob' : obLetter A H' (c.la i) (.int (m.from_ : Int)) (.int (m.to : Int)) (.ref (c.lc i)) (.int (m.clock : Int)) (.ref (c.ln i)) := by
      obtain ⟨d, e⟩ := lx.ob
      exact ⟨d, (fr' _ _ (fun z => lx.nla (.inl z)) e).1⟩
    have dx' := x'.desk m.to L.dst
    have hs' : Ho.came h m = Ho.came h m := rfl
    have eh : ((Ho.came h m).desk m.to).has = Sq36.most (h.desk m.to).has m.has := by rw [came_desk x.ok L.dst, if_pos rfl]
    have ca' : H' (c'.ca m.to) = some (.lst (((Sq36.most (h.desk m.to).has m.has).map fun (n : Nat) => (n : Int)).map V.int)) := by rw [dx'.ca, eh, nums_ints]
    have ob' := x'.ob
    rw [e1] at ob'
    refine ⟨_, rfl, ob'.desks T ⟨_, rfl, lob'.target T ⟨c'.dk, _, _, _, rfl, rfl, .of x'.dk, atI_nat (refs_get L.dst), dx'.ob.counts T ⟨c'.ca m.to, _, rfl, .of ca', ?_⟩⟩⟩⟩
    rw [sum_nums]
    refine ⟨_, rfl, _, _, rfl, rfl, by show 1 ≤ sizeLine; decide, fun p np => res _ c' p e1 e2 (x'.same (same_upd np)) (fun b o nb e => ⟨same_upd np _ _ (fr' b o nb e).1, (fr' b o nb e).2⟩) (fn' p np) ?_⟩
    rw [upd_same]
    have := came_sum x.ok hm
    unfold outs Sq36.says
    rw [this]
    rfl
end
end Ho
end

section
set_option Elab.async false
set_option maxRecDepth 100000
set_option maxHeartbeats 4000000
/-! One call. -/
namespace Ho
open PySem PySem.W PyProof.Rows L2
theorem mk1 {args : List Nat} {cl : Sq36.Call} (h : mkCall 1 args = some cl) : ∃ a1, args = [a1] ∧ cl = .begin_ a1 := by
  match args, h with
  | [], h => have h2 : none = some cl := h; cases h2
  | [a1], h => exact ⟨a1, rfl, (Option.some.inj h).symm⟩
  | _ :: _ :: _, h => have h2 : none = some cl := h; cases h2
theorem mk2 {args : List Nat} {cl : Sq36.Call} (h : mkCall 2 args = some cl) : ∃ a1 a2 a3, args = [a1, a2, a3] ∧ cl = .make a1 a2 a3 := by
  match args, h with
  | [], h => have h2 : none = some cl := h; cases h2
  | [_], h => have h2 : none = some cl := h; cases h2
  | [_, _], h => have h2 : none = some cl := h; cases h2
  | [a1, a2, a3], h => exact ⟨a1, a2, a3, rfl, (Option.some.inj h).symm⟩
  | _ :: _ :: _ :: _ :: _, h => have h2 : none = some cl := h; cases h2
theorem mk3 {args : List Nat} {cl : Sq36.Call} (h : mkCall 3 args = some cl) : ∃ a1 a2 a3 a4, args = [a1, a2, a3, a4] ∧ cl = .move a1 a2 a3 a4 := by
  match args, h with
  | [], h => have h2 : none = some cl := h; cases h2
  | [_], h => have h2 : none = some cl := h; cases h2
  | [_, _], h => have h2 : none = some cl := h; cases h2
  | [_, _, _], h => have h2 : none = some cl := h; cases h2
  | [a1, a2, a3, a4], h => exact ⟨a1, a2, a3, a4, rfl, (Option.some.inj h).symm⟩
  | _ :: _ :: _ :: _ :: _ :: _, h => have h2 : none = some cl := h; cases h2
theorem mk4 {args : List Nat} {cl : Sq36.Call} (h : mkCall 4 args = some cl) : ∃ a1 a2 a3 a4, args = [a1, a2, a3, a4] ∧ cl = .tell a1 a2 a3 a4 := by
  match args, h with
  | [], h => have h2 : none = some cl := h; cases h2
  | [_], h => have h2 : none = some cl := h; cases h2
  | [_, _], h => have h2 : none = some cl := h; cases h2
  | [_, _, _], h => have h2 : none = some cl := h; cases h2
  | [a1, a2, a3, a4], h => exact ⟨a1, a2, a3, a4, rfl, (Option.some.inj h).symm⟩
  | _ :: _ :: _ :: _ :: _ :: _, h => have h2 : none = some cl := h; cases h2
theorem mk5 {args : List Nat} {cl : Sq36.Call} (h : mkCall 5 args = some cl) : ∃ a1 a2 a3, args = [a1, a2, a3] ∧ cl = .clear a1 a2 a3 := by
  match args, h with
  | [], h => have h2 : none = some cl := h; cases h2
  | [_], h => have h2 : none = some cl := h; cases h2
  | [_, _], h => have h2 : none = some cl := h; cases h2
  | [a1, a2, a3], h => exact ⟨a1, a2, a3, rfl, (Option.some.inj h).symm⟩
  | _ :: _ :: _ :: _ :: _, h => have h2 : none = some cl := h; cases h2
theorem mk6 {args : List Nat} {cl : Sq36.Call} (h : mkCall 6 args = some cl) : ∃ a1 a2 a3, args = [a1, a2, a3] ∧ cl = .add a1 a2 a3 := by
  match args, h with
  | [], h => have h2 : none = some cl := h; cases h2
  | [_], h => have h2 : none = some cl := h; cases h2
  | [_, _], h => have h2 : none = some cl := h; cases h2
  | [a1, a2, a3], h => exact ⟨a1, a2, a3, rfl, (Option.some.inj h).symm⟩
  | _ :: _ :: _ :: _ :: _, h => have h2 : none = some cl := h; cases h2
theorem mk7 {args : List Nat} {cl : Sq36.Call} (h : mkCall 7 args = some cl) : ∃ a1 a2 a3, args = [a1, a2, a3] ∧ cl = .less a1 a2 a3 := by
  match args, h with
  | [], h => have h2 : none = some cl := h; cases h2
  | [_], h => have h2 : none = some cl := h; cases h2
  | [_, _], h => have h2 : none = some cl := h; cases h2
  | [a1, a2, a3], h => exact ⟨a1, a2, a3, rfl, (Option.some.inj h).symm⟩
  | _ :: _ :: _ :: _ :: _, h => have h2 : none = some cl := h; cases h2
theorem mk8 {args : List Nat} {cl : Sq36.Call} (h : mkCall 8 args = some cl) : ∃ a1 a2, args = [a1, a2] ∧ cl = .back a1 a2 := by
  match args, h with
  | [], h => have h2 : none = some cl := h; cases h2
  | [_], h => have h2 : none = some cl := h; cases h2
  | [a1, a2], h => exact ⟨a1, a2, rfl, (Option.some.inj h).symm⟩
  | _ :: _ :: _ :: _, h => have h2 : none = some cl := h; cases h2
theorem mk9 {args : List Nat} {cl : Sq36.Call} (h : mkCall 9 args = some cl) : ∃ a1, args = [a1] ∧ cl = .undo a1 := by
  match args, h with
  | [], h => have h2 : none = some cl := h; cases h2
  | [a1], h => exact ⟨a1, rfl, (Option.some.inj h).symm⟩
  | _ :: _ :: _, h => have h2 : none = some cl := h; cases h2
theorem mk10 {args : List Nat} {cl : Sq36.Call} (h : mkCall 10 args = some cl) : ∃ a1, args = [a1] ∧ cl = .redo a1 := by
  match args, h with
  | [], h => have h2 : none = some cl := h; cases h2
  | [a1], h => exact ⟨a1, rfl, (Option.some.inj h).symm⟩
  | _ :: _ :: _, h => have h2 : none = some cl := h; cases h2
theorem mk11 {args : List Nat} {cl : Sq36.Call} (h : mkCall 11 args = some cl) : ∃ a1 a2, args = [a1, a2] ∧ cl = .send a1 a2 := by
  match args, h with
  | [], h => have h2 : none = some cl := h; cases h2
  | [_], h => have h2 : none = some cl := h; cases h2
  | [a1, a2], h => exact ⟨a1, a2, rfl, (Option.some.inj h).symm⟩
  | _ :: _ :: _ :: _, h => have h2 : none = some cl := h; cases h2
theorem mk12 {args : List Nat} {cl : Sq36.Call} (h : mkCall 12 args = some cl) : ∃ a1, args = [a1] ∧ cl = .comes a1 := by
  match args, h with
  | [], h => have h2 : none = some cl := h; cases h2
  | [a1], h => exact ⟨a1, rfl, (Option.some.inj h).symm⟩
  | _ :: _ :: _, h => have h2 : none = some cl := h; cases h2
theorem mk13 {args : List Nat} {cl : Sq36.Call} (h : mkCall 13 args = some cl) : ∃ a1, args = [a1] ∧ cl = .forget a1 := by
  match args, h with
  | [], h => have h2 : none = some cl := h; cases h2
  | [a1], h => exact ⟨a1, rfl, (Option.some.inj h).symm⟩
  | _ :: _ :: _, h => have h2 : none = some cl := h; cases h2
theorem mk14 {args : List Nat} {cl : Sq36.Call} (h : mkCall 14 args = some cl) : ∃ a1 a2, args = [a1, a2] ∧ cl = .tree a1 a2 := by
  match args, h with
  | [], h => have h2 : none = some cl := h; cases h2
  | [_], h => have h2 : none = some cl := h; cases h2
  | [a1, a2], h => exact ⟨a1, a2, rfl, (Option.some.inj h).symm⟩
  | _ :: _ :: _ :: _, h => have h2 : none = some cl := h; cases h2
theorem mk15 {args : List Nat} {cl : Sq36.Call} (h : mkCall 15 args = some cl) : ∃ a1 a2, args = [a1, a2] ∧ cl = .row a1 a2 := by
  match args, h with
  | [], h => have h2 : none = some cl := h; cases h2
  | [_], h => have h2 : none = some cl := h; cases h2
  | [a1, a2], h => exact ⟨a1, a2, rfl, (Option.some.inj h).symm⟩
  | _ :: _ :: _ :: _, h => have h2 : none = some cl := h; cases h2
theorem mk16 {args : List Nat} {cl : Sq36.Call} (h : mkCall 16 args = some cl) : ∃ a1 a2, args = [a1, a2] ∧ cl = .line a1 a2 := by
  match args, h with
  | [], h => have h2 : none = some cl := h; cases h2
  | [_], h => have h2 : none = some cl := h; cases h2
  | [a1, a2], h => exact ⟨a1, a2, rfl, (Option.some.inj h).symm⟩
  | _ :: _ :: _ :: _, h => have h2 : none = some cl := h; cases h2
theorem mk17 {args : List Nat} {cl : Sq36.Call} (h : mkCall 17 args = some cl) : ∃ a1 a2 a3, args = [a1, a2, a3] ∧ cl = .values a1 a2 a3 := by
  match args, h with
  | [], h => have h2 : none = some cl := h; cases h2
  | [_], h => have h2 : none = some cl := h; cases h2
  | [_, _], h => have h2 : none = some cl := h; cases h2
  | [a1, a2, a3], h => exact ⟨a1, a2, a3, rfl, (Option.some.inj h).symm⟩
  | _ :: _ :: _ :: _ :: _, h => have h2 : none = some cl := h; cases h2
theorem mk18 {args : List Nat} {cl : Sq36.Call} (h : mkCall 18 args = some cl) : ∃ a1 a2, args = [a1, a2] ∧ cl = .amounts a1 a2 := by
  match args, h with
  | [], h => have h2 : none = some cl := h; cases h2
  | [_], h => have h2 : none = some cl := h; cases h2
  | [a1, a2], h => exact ⟨a1, a2, rfl, (Option.some.inj h).symm⟩
  | _ :: _ :: _ :: _, h => have h2 : none = some cl := h; cases h2
theorem mk19 {args : List Nat} {cl : Sq36.Call} (h : mkCall 19 args = some cl) : ∃ a1 a2 a3, args = [a1, a2, a3] ∧ cl = .find a1 a2 a3 := by
  match args, h with
  | [], h => have h2 : none = some cl := h; cases h2
  | [_], h => have h2 : none = some cl := h; cases h2
  | [_, _], h => have h2 : none = some cl := h; cases h2
  | [a1, a2, a3], h => exact ⟨a1, a2, a3, rfl, (Option.some.inj h).symm⟩
  | _ :: _ :: _ :: _ :: _, h => have h2 : none = some cl := h; cases h2
theorem mk20 {args : List Nat} {cl : Sq36.Call} (h : mkCall 20 args = some cl) : ∃ a1, args = [a1] ∧ cl = .kept a1 := by
  match args, h with
  | [], h => have h2 : none = some cl := h; cases h2
  | [a1], h => exact ⟨a1, rfl, (Option.some.inj h).symm⟩
  | _ :: _ :: _, h => have h2 : none = some cl := h; cases h2
theorem mk21 {args : List Nat} {cl : Sq36.Call} (h : mkCall 21 args = some cl) : ∃ a1 a2, args = [a1, a2] ∧ cl = .same a1 a2 := by
  match args, h with
  | [], h => have h2 : none = some cl := h; cases h2
  | [_], h => have h2 : none = some cl := h; cases h2
  | [a1, a2], h => exact ⟨a1, a2, rfl, (Option.some.inj h).symm⟩
  | _ :: _ :: _ :: _, h => have h2 : none = some cl := h; cases h2
section
variable {P : Program} {w : World} {K : PySem.W.Frag} {mg : Str → Option Value} {base : Heap} {A : Ad} {D : Fd}
theorem eqF {p n : Nat} {A B : Prop} (h : p ≠ n) (b : B) : if decide (V.int (p : Int) = V.int ((n : Nat) : Int)) = true then A else B := by
  rw [if_neg]
  · exact b
  · rw [dec_int]
    exact fun z => h (eq_of_beq z)
theorem eqT {p n : Nat} {A B : Prop} (h : p = n) (a : A) : if decide (V.int (p : Int) = V.int ((n : Nat) : Int)) = true then A else B := by
  rw [if_pos]
  · exact a
  · rw [dec_int]
    exact beq_iff_eq.mpr h
theorem leF {p n : Nat} {A B : Prop} (h : n < p) (b : B) : if decide ((p : Int) ≤ ((n : Nat) : Int)) = true then A else B := by
  rw [if_neg]
  · exact b
  · rw [dec_le]
    exact fun z => by have := of_decide_eq_true z; omega
theorem leT {p n : Nat} {A B : Prop} (h : p ≤ n) (a : A) : if decide ((p : Int) ≤ ((n : Nat) : Int)) = true then A else B := by
  rw [if_pos]
  · exact a
  · rw [dec_le]
    exact decide_eq_true h
def sp_dis (A : Ad) (ok : Nat → Prop) : Sp := fun vs H Q _ => ∃ (c : Cells) (h : Sq36.House) (p : Nat) (args : List Nat) (na : Addr) (cl : Sq36.Call), vs = [.ref c.hs, .int (p : Int), .ref na] ∧ ok p ∧ HouseAt A c H h ∧ H na = some (.lst (nums args)) ∧ mkCall p args = some cl ∧ Res A c h H (h.step cl) Q
def ok_answer_of_change_p (p : Nat) : Prop := p = 2 ∨ p = 3 ∨ p = 4 ∨ p = 5 ∨ p = 6 ∨ p = 7
theorem ok_answer_of_change (T : Txt K mg A D) : FnOk P w K mg base CX0 11 A.f_answer_of_change D.d_answer_of_change ["house", "call", "numbers"] (sp_dis A ok_answer_of_change_p) := by
  refine T.f_answer_of_change.ok sc_answer_of_change (fun vs H Q E h => ?_) (fun cdv ar outer s H vs Q E hr h => have hu := hu_of hr; ⟨_, (pss_cons (ps_if (pt_cmpR op_eq (pv 1) (pe_glob (v := .int (2)) (by rfl) (Classical.choose_spec T.g_MAKE) ⟨_, rfl⟩) (nomark _))
      (pss_one (ps_ret (pe_call (ok_make T) (by exact hr.mono (by decide)) (by rfl) T.m_make T.f_make.kp T.b_make .nil pass0 (pa_cons (pv 0) (pa_cons (pe_ix ix_list (pv 2) pe_int (by exact fun _ _ => rfl)) (pa_cons (pe_ix ix_list (pv 2) pe_int (by exact fun _ _ => rfl)) (pa_cons (pe_ix ix_list (pv 2) pe_int (by exact fun _ _ => rfl)) pa_nil)))))))
      pss_nil)
    (pss_cons (ps_if (pt_cmpR op_eq (pv 1) (pe_glob (v := .int (3)) (by rfl) (Classical.choose_spec T.g_MOVE) ⟨_, rfl⟩) (nomark _))
      (pss_one (ps_ret (pe_call (ok_move T) (by exact hr.mono (by decide)) (by rfl) T.m_move T.f_move.kp T.b_move .nil pass0 (pa_cons (pv 0) (pa_cons (pe_ix ix_list (pv 2) pe_int (by exact fun _ _ => rfl)) (pa_cons (pe_ix ix_list (pv 2) pe_int (by exact fun _ _ => rfl)) (pa_cons (pe_ix ix_list (pv 2) pe_int (by exact fun _ _ => rfl)) (pa_cons (pe_ix ix_list (pv 2) pe_int (by exact fun _ _ => rfl)) pa_nil))))))))
      pss_nil)
    (pss_cons (ps_if (pt_cmpR op_eq (pv 1) (pe_glob (v := .int (4)) (by rfl) (Classical.choose_spec T.g_TELL) ⟨_, rfl⟩) (nomark _))
      (pss_one (ps_ret (pe_call (ok_tell T) (by exact hr.mono (by decide)) (by rfl) T.m_tell T.f_tell.kp T.b_tell .nil pass0 (pa_cons (pv 0) (pa_cons (pe_ix ix_list (pv 2) pe_int (by exact fun _ _ => rfl)) (pa_cons (pe_ix ix_list (pv 2) pe_int (by exact fun _ _ => rfl)) (pa_cons (pe_ix ix_list (pv 2) pe_int (by exact fun _ _ => rfl)) (pa_cons (pe_ix ix_list (pv 2) pe_int (by exact fun _ _ => rfl)) pa_nil))))))))
      pss_nil)
    (pss_cons (ps_if (pt_cmpR op_eq (pv 1) (pe_glob (v := .int (5)) (by rfl) (Classical.choose_spec T.g_CLEAR) ⟨_, rfl⟩) (nomark _))
      (pss_one (ps_ret (pe_call (ok_clear_field T) (by exact hr.mono (by decide)) (by rfl) T.m_clear_field T.f_clear_field.kp T.b_clear_field .nil pass0 (pa_cons (pv 0) (pa_cons (pe_ix ix_list (pv 2) pe_int (by exact fun _ _ => rfl)) (pa_cons (pe_ix ix_list (pv 2) pe_int (by exact fun _ _ => rfl)) (pa_cons (pe_ix ix_list (pv 2) pe_int (by exact fun _ _ => rfl)) pa_nil)))))))
      pss_nil)
    (pss_cons (ps_if (pt_cmpR op_eq (pv 1) (pe_glob (v := .int (6)) (by rfl) (Classical.choose_spec T.g_ADD) ⟨_, rfl⟩) (nomark _))
      (pss_one (ps_ret (pe_call (ok_add_amount T) (by exact hr.mono (by decide)) (by rfl) T.m_add_amount T.f_add_amount.kp T.b_add_amount .nil pass0 (pa_cons (pv 0) (pa_cons (pe_ix ix_list (pv 2) pe_int (by exact fun _ _ => rfl)) (pa_cons (pe_ix ix_list (pv 2) pe_int (by exact fun _ _ => rfl)) (pa_cons (pe_ix ix_list (pv 2) pe_int (by exact fun _ _ => rfl)) pa_nil)))))))
      pss_nil)
    (pss_one (ps_ret (pe_call (ok_less_amount T) (by exact hr.mono (by decide)) (by rfl) T.m_less_amount T.f_less_amount.kp T.b_less_amount .nil pass0 (pa_cons (pv 0) (pa_cons (pe_ix ix_list (pv 2) pe_int (by exact fun _ _ => rfl)) (pa_cons (pe_ix ix_list (pv 2) pe_int (by exact fun _ _ => rfl)) (pa_cons (pe_ix ix_list (pv 2) pe_int (by exact fun _ _ => rfl)) pa_nil)))))))))))), ?_⟩)
  · obtain ⟨c, h, p, args, na, cl, rfl, _⟩ := h; rfl
  · obtain ⟨c, h, p, args, na, cl, rfl, hp, x, hna, hc, res⟩ := h
    rcases hp with rfl | rfl | rfl | rfl | rfl | rfl
    · obtain ⟨a1, a2, a3, rfl, rfl⟩ := mk2 hc
      exact ⟨_, rfl, rfl, _, rfl, eqT (n := 2) rfl ⟨_, rfl, _, rfl, na, _, _, _, rfl, rfl, .of hna, rfl, _, rfl, na, _, _, _, rfl, rfl, .of hna, rfl, _, rfl, na, _, _, _, rfl, rfl, .of hna, rfl, c, h, a1, a2, a3, rfl, x, res⟩⟩
    · obtain ⟨a1, a2, a3, a4, rfl, rfl⟩ := mk3 hc
      refine ⟨_, rfl, rfl, _, rfl, eqF (n := 2) (by decide) ?_⟩
      exact ⟨_, rfl, rfl, _, rfl, eqT (n := 3) rfl ⟨_, rfl, _, rfl, na, _, _, _, rfl, rfl, .of hna, rfl, _, rfl, na, _, _, _, rfl, rfl, .of hna, rfl, _, rfl, na, _, _, _, rfl, rfl, .of hna, rfl, _, rfl, na, _, _, _, rfl, rfl, .of hna, rfl, c, h, a1, a2, a3, a4, rfl, x, res⟩⟩
    · obtain ⟨a1, a2, a3, a4, rfl, rfl⟩ := mk4 hc
      refine ⟨_, rfl, rfl, _, rfl, eqF (n := 2) (by decide) ?_⟩
      refine ⟨_, rfl, rfl, _, rfl, eqF (n := 3) (by decide) ?_⟩
      exact ⟨_, rfl, rfl, _, rfl, eqT (n := 4) rfl ⟨_, rfl, _, rfl, na, _, _, _, rfl, rfl, .of hna, rfl, _, rfl, na, _, _, _, rfl, rfl, .of hna, rfl, _, rfl, na, _, _, _, rfl, rfl, .of hna, rfl, _, rfl, na, _, _, _, rfl, rfl, .of hna, rfl, c, h, a1, a2, a3, a4, rfl, x, res⟩⟩
    · obtain ⟨a1, a2, a3, rfl, rfl⟩ := mk5 hc
      refine ⟨_, rfl, rfl, _, rfl, eqF (n := 2) (by decide) ?_⟩
      refine ⟨_, rfl, rfl, _, rfl, eqF (n := 3) (by decide) ?_⟩
      refine ⟨_, rfl, rfl, _, rfl, eqF (n := 4) (by decide) ?_⟩
      exact ⟨_, rfl, rfl, _, rfl, eqT (n := 5) rfl ⟨_, rfl, _, rfl, na, _, _, _, rfl, rfl, .of hna, rfl, _, rfl, na, _, _, _, rfl, rfl, .of hna, rfl, _, rfl, na, _, _, _, rfl, rfl, .of hna, rfl, c, h, a1, a2, a3, rfl, x, res⟩⟩
    · obtain ⟨a1, a2, a3, rfl, rfl⟩ := mk6 hc
      refine ⟨_, rfl, rfl, _, rfl, eqF (n := 2) (by decide) ?_⟩
      refine ⟨_, rfl, rfl, _, rfl, eqF (n := 3) (by decide) ?_⟩
      refine ⟨_, rfl, rfl, _, rfl, eqF (n := 4) (by decide) ?_⟩
      refine ⟨_, rfl, rfl, _, rfl, eqF (n := 5) (by decide) ?_⟩
      exact ⟨_, rfl, rfl, _, rfl, eqT (n := 6) rfl ⟨_, rfl, _, rfl, na, _, _, _, rfl, rfl, .of hna, rfl, _, rfl, na, _, _, _, rfl, rfl, .of hna, rfl, _, rfl, na, _, _, _, rfl, rfl, .of hna, rfl, c, h, a1, a2, a3, rfl, x, res⟩⟩
    · obtain ⟨a1, a2, a3, rfl, rfl⟩ := mk7 hc
      refine ⟨_, rfl, rfl, _, rfl, eqF (n := 2) (by decide) ?_⟩
      refine ⟨_, rfl, rfl, _, rfl, eqF (n := 3) (by decide) ?_⟩
      refine ⟨_, rfl, rfl, _, rfl, eqF (n := 4) (by decide) ?_⟩
      refine ⟨_, rfl, rfl, _, rfl, eqF (n := 5) (by decide) ?_⟩
      refine ⟨_, rfl, rfl, _, rfl, eqF (n := 6) (by decide) ?_⟩
      exact ⟨_, rfl, _, rfl, na, _, _, _, rfl, rfl, .of hna, rfl, _, rfl, na, _, _, _, rfl, rfl, .of hna, rfl, _, rfl, na, _, _, _, rfl, rfl, .of hna, rfl, c, h, a1, a2, a3, rfl, x, res⟩
def ok_answer_of_taking_p (p : Nat) : Prop := p = 8 ∨ p = 9 ∨ p = 10
theorem ok_answer_of_taking (T : Txt K mg A D) : FnOk P w K mg base CX0 8 A.f_answer_of_taking D.d_answer_of_taking ["house", "call", "numbers"] (sp_dis A ok_answer_of_taking_p) := by
  refine T.f_answer_of_taking.ok sc_answer_of_taking (fun vs H Q E h => ?_) (fun cdv ar outer s H vs Q E hr h => have hu := hu_of hr; ⟨_, (pss_cons (ps_if (pt_cmpR op_eq (pv 1) (pe_glob (v := .int (8)) (by rfl) (Classical.choose_spec T.g_BACK) ⟨_, rfl⟩) (nomark _))
      (pss_one (ps_ret (pe_call (ok_back T) (by exact hr.mono (by decide)) (by rfl) T.m_back T.f_back.kp T.b_back .nil pass0 (pa_cons (pv 0) (pa_cons (pe_ix ix_list (pv 2) pe_int (by exact fun _ _ => rfl)) (pa_cons (pe_ix ix_list (pv 2) pe_int (by exact fun _ _ => rfl)) pa_nil))))))
      pss_nil)
    (pss_cons (ps_if (pt_cmpR op_eq (pv 1) (pe_glob (v := .int (9)) (by rfl) (Classical.choose_spec T.g_UNDO) ⟨_, rfl⟩) (nomark _))
      (pss_one (ps_ret (pe_call (ok_undo T) (by exact hr.mono (by decide)) (by rfl) T.m_undo T.f_undo.kp T.b_undo .nil pass0 (pa_cons (pv 0) (pa_cons (pe_ix ix_list (pv 2) pe_int (by exact fun _ _ => rfl)) pa_nil)))))
      pss_nil)
    (pss_one (ps_ret (pe_call (ok_redo T) (by exact hr.mono (by decide)) (by rfl) T.m_redo T.f_redo.kp T.b_redo .nil pass0 (pa_cons (pv 0) (pa_cons (pe_ix ix_list (pv 2) pe_int (by exact fun _ _ => rfl)) pa_nil))))))), ?_⟩)
  · obtain ⟨c, h, p, args, na, cl, rfl, _⟩ := h; rfl
  · obtain ⟨c, h, p, args, na, cl, rfl, hp, x, hna, hc, res⟩ := h
    rcases hp with rfl | rfl | rfl
    · obtain ⟨a1, a2, rfl, rfl⟩ := mk8 hc
      exact ⟨_, rfl, rfl, _, rfl, eqT (n := 8) rfl ⟨_, rfl, _, rfl, na, _, _, _, rfl, rfl, .of hna, rfl, _, rfl, na, _, _, _, rfl, rfl, .of hna, rfl, c, h, a1, a2, rfl, x, res⟩⟩
    · obtain ⟨a1, rfl, rfl⟩ := mk9 hc
      refine ⟨_, rfl, rfl, _, rfl, eqF (n := 8) (by decide) ?_⟩
      exact ⟨_, rfl, rfl, _, rfl, eqT (n := 9) rfl ⟨_, rfl, _, rfl, na, _, _, _, rfl, rfl, .of hna, rfl, c, h, a1, rfl, x, res⟩⟩
    · obtain ⟨a1, rfl, rfl⟩ := mk10 hc
      refine ⟨_, rfl, rfl, _, rfl, eqF (n := 8) (by decide) ?_⟩
      refine ⟨_, rfl, rfl, _, rfl, eqF (n := 9) (by decide) ?_⟩
      exact ⟨_, rfl, _, rfl, na, _, _, _, rfl, rfl, .of hna, rfl, c, h, a1, rfl, x, res⟩
def ok_answer_of_keeping_p (p : Nat) : Prop := p = 11 ∨ p = 12 ∨ p = 13 ∨ p = 20
theorem ok_answer_of_keeping (T : Txt K mg A D) : FnOk P w K mg base CX0 8 A.f_answer_of_keeping D.d_answer_of_keeping ["house", "call", "numbers"] (sp_dis A ok_answer_of_keeping_p) := by
  refine T.f_answer_of_keeping.ok sc_answer_of_keeping (fun vs H Q E h => ?_) (fun cdv ar outer s H vs Q E hr h => have hu := hu_of hr; ⟨_, (pss_cons (ps_if (pt_cmpR op_eq (pv 1) (pe_glob (v := .int (11)) (by rfl) (Classical.choose_spec T.g_SEND) ⟨_, rfl⟩) (nomark _))
      (pss_one (ps_ret (pe_call (ok_send T) (by exact hr.mono (by decide)) (by rfl) T.m_send T.f_send.kp T.b_send .nil pass0 (pa_cons (pv 0) (pa_cons (pe_ix ix_list (pv 2) pe_int (by exact fun _ _ => rfl)) (pa_cons (pe_ix ix_list (pv 2) pe_int (by exact fun _ _ => rfl)) pa_nil))))))
      pss_nil)
    (pss_cons (ps_if (pt_cmpR op_eq (pv 1) (pe_glob (v := .int (12)) (by rfl) (Classical.choose_spec T.g_COMES) ⟨_, rfl⟩) (nomark _))
      (pss_one (ps_ret (pe_call (ok_comes T) (by exact hr.mono (by decide)) (by rfl) T.m_comes T.f_comes.kp T.b_comes .nil pass0 (pa_cons (pv 0) (pa_cons (pe_ix ix_list (pv 2) pe_int (by exact fun _ _ => rfl)) pa_nil)))))
      pss_nil)
    (pss_cons (ps_if (pt_cmpR op_eq (pv 1) (pe_glob (v := .int (13)) (by rfl) (Classical.choose_spec T.g_FORGET) ⟨_, rfl⟩) (nomark _))
      (pss_one (ps_ret (pe_call (ok_forget T) (by exact hr.mono (by decide)) (by rfl) T.m_forget T.f_forget.kp T.b_forget .nil pass0 (pa_cons (pv 0) (pa_cons (pe_ix ix_list (pv 2) pe_int (by exact fun _ _ => rfl)) pa_nil)))))
      pss_nil)
    (pss_one (ps_ret (pe_call (ok_ask_kept T) (by exact hr.mono (by decide)) (by rfl) T.m_ask_kept T.f_ask_kept.kp T.b_ask_kept .nil pass0 (pa_cons (pv 0) (pa_cons (pe_ix ix_list (pv 2) pe_int (by exact fun _ _ => rfl)) pa_nil)))))))), ?_⟩)
  · obtain ⟨c, h, p, args, na, cl, rfl, _⟩ := h; rfl
  · obtain ⟨c, h, p, args, na, cl, rfl, hp, x, hna, hc, res⟩ := h
    rcases hp with rfl | rfl | rfl | rfl
    · obtain ⟨a1, a2, rfl, rfl⟩ := mk11 hc
      exact ⟨_, rfl, rfl, _, rfl, eqT (n := 11) rfl ⟨_, rfl, _, rfl, na, _, _, _, rfl, rfl, .of hna, rfl, _, rfl, na, _, _, _, rfl, rfl, .of hna, rfl, c, h, a1, a2, rfl, x, res⟩⟩
    · obtain ⟨a1, rfl, rfl⟩ := mk12 hc
      refine ⟨_, rfl, rfl, _, rfl, eqF (n := 11) (by decide) ?_⟩
      exact ⟨_, rfl, rfl, _, rfl, eqT (n := 12) rfl ⟨_, rfl, _, rfl, na, _, _, _, rfl, rfl, .of hna, rfl, c, h, a1, rfl, x, res⟩⟩
    · obtain ⟨a1, rfl, rfl⟩ := mk13 hc
      refine ⟨_, rfl, rfl, _, rfl, eqF (n := 11) (by decide) ?_⟩
      refine ⟨_, rfl, rfl, _, rfl, eqF (n := 12) (by decide) ?_⟩
      exact ⟨_, rfl, rfl, _, rfl, eqT (n := 13) rfl ⟨_, rfl, _, rfl, na, _, _, _, rfl, rfl, .of hna, rfl, c, h, a1, rfl, x, res⟩⟩
    · obtain ⟨a1, rfl, rfl⟩ := mk20 hc
      refine ⟨_, rfl, rfl, _, rfl, eqF (n := 11) (by decide) ?_⟩
      refine ⟨_, rfl, rfl, _, rfl, eqF (n := 12) (by decide) ?_⟩
      refine ⟨_, rfl, rfl, _, rfl, eqF (n := 13) (by decide) ?_⟩
      exact ⟨_, rfl, _, rfl, na, _, _, _, rfl, rfl, .of hna, rfl, c, h, a1, rfl, x, res⟩
def ok_answer_of_question_p (p : Nat) : Prop := p = 14 ∨ p = 15 ∨ p = 16 ∨ p = 17 ∨ p = 18 ∨ p = 19 ∨ p = 21
theorem ok_answer_of_question (T : Txt K mg A D) : FnOk P w K mg base CX0 9 A.f_answer_of_question D.d_answer_of_question ["house", "call", "numbers"] (sp_dis A ok_answer_of_question_p) := by
  refine T.f_answer_of_question.ok sc_answer_of_question (fun vs H Q E h => ?_) (fun cdv ar outer s H vs Q E hr h => have hu := hu_of hr; ⟨_, (pss_cons (ps_if (pt_cmpR op_eq (pv 1) (pe_glob (v := .int (14)) (by rfl) (Classical.choose_spec T.g_TREE) ⟨_, rfl⟩) (nomark _))
      (pss_one (ps_ret (pe_call (ok_ask_tree T) (by exact hr.mono (by decide)) (by rfl) T.m_ask_tree T.f_ask_tree.kp T.b_ask_tree .nil pass0 (pa_cons (pv 0) (pa_cons (pe_ix ix_list (pv 2) pe_int (by exact fun _ _ => rfl)) (pa_cons (pe_ix ix_list (pv 2) pe_int (by exact fun _ _ => rfl)) pa_nil))))))
      pss_nil)
    (pss_cons (ps_if (pt_cmpR op_eq (pv 1) (pe_glob (v := .int (15)) (by rfl) (Classical.choose_spec T.g_ROW) ⟨_, rfl⟩) (nomark _))
      (pss_one (ps_ret (pe_call (ok_ask_row T) (by exact hr.mono (by decide)) (by rfl) T.m_ask_row T.f_ask_row.kp T.b_ask_row .nil pass0 (pa_cons (pv 0) (pa_cons (pe_ix ix_list (pv 2) pe_int (by exact fun _ _ => rfl)) (pa_cons (pe_ix ix_list (pv 2) pe_int (by exact fun _ _ => rfl)) pa_nil))))))
      pss_nil)
    (pss_cons (ps_if (pt_cmpR op_eq (pv 1) (pe_glob (v := .int (16)) (by rfl) (Classical.choose_spec T.g_LINE) ⟨_, rfl⟩) (nomark _))
      (pss_one (ps_ret (pe_call (ok_ask_line T) (by exact hr.mono (by decide)) (by rfl) T.m_ask_line T.f_ask_line.kp T.b_ask_line .nil pass0 (pa_cons (pv 0) (pa_cons (pe_ix ix_list (pv 2) pe_int (by exact fun _ _ => rfl)) (pa_cons (pe_ix ix_list (pv 2) pe_int (by exact fun _ _ => rfl)) pa_nil))))))
      pss_nil)
    (pss_cons (ps_if (pt_cmpR op_eq (pv 1) (pe_glob (v := .int (17)) (by rfl) (Classical.choose_spec T.g_VALUES) ⟨_, rfl⟩) (nomark _))
      (pss_one (ps_ret (pe_call (ok_ask_values T) (by exact hr.mono (by decide)) (by rfl) T.m_ask_values T.f_ask_values.kp T.b_ask_values .nil pass0 (pa_cons (pv 0) (pa_cons (pe_ix ix_list (pv 2) pe_int (by exact fun _ _ => rfl)) (pa_cons (pe_ix ix_list (pv 2) pe_int (by exact fun _ _ => rfl)) (pa_cons (pe_ix ix_list (pv 2) pe_int (by exact fun _ _ => rfl)) pa_nil)))))))
      pss_nil)
    (pss_cons (ps_if (pt_cmpR op_eq (pv 1) (pe_glob (v := .int (18)) (by rfl) (Classical.choose_spec T.g_AMOUNTS) ⟨_, rfl⟩) (nomark _))
      (pss_one (ps_ret (pe_call (ok_ask_amounts T) (by exact hr.mono (by decide)) (by rfl) T.m_ask_amounts T.f_ask_amounts.kp T.b_ask_amounts .nil pass0 (pa_cons (pv 0) (pa_cons (pe_ix ix_list (pv 2) pe_int (by exact fun _ _ => rfl)) (pa_cons (pe_ix ix_list (pv 2) pe_int (by exact fun _ _ => rfl)) pa_nil))))))
      pss_nil)
    (pss_cons (ps_if (pt_cmpR op_eq (pv 1) (pe_glob (v := .int (19)) (by rfl) (Classical.choose_spec T.g_FIND) ⟨_, rfl⟩) (nomark _))
      (pss_one (ps_ret (pe_call (ok_ask_find T) (by exact hr.mono (by decide)) (by rfl) T.m_ask_find T.f_ask_find.kp T.b_ask_find .nil pass0 (pa_cons (pv 0) (pa_cons (pe_ix ix_list (pv 2) pe_int (by exact fun _ _ => rfl)) (pa_cons (pe_ix ix_list (pv 2) pe_int (by exact fun _ _ => rfl)) (pa_cons (pe_ix ix_list (pv 2) pe_int (by exact fun _ _ => rfl)) pa_nil)))))))
      pss_nil)
    (pss_one (ps_ret (pe_call (ok_ask_same T) (by exact hr.mono (by decide)) (by rfl) T.m_ask_same T.f_ask_same.kp T.b_ask_same .nil pass0 (pa_cons (pv 0) (pa_cons (pe_ix ix_list (pv 2) pe_int (by exact fun _ _ => rfl)) (pa_cons (pe_ix ix_list (pv 2) pe_int (by exact fun _ _ => rfl)) pa_nil)))))))))))), ?_⟩)
  · obtain ⟨c, h, p, args, na, cl, rfl, _⟩ := h; rfl
  · obtain ⟨c, h, p, args, na, cl, rfl, hp, x, hna, hc, res⟩ := h
    rcases hp with rfl | rfl | rfl | rfl | rfl | rfl | rfl
    · obtain ⟨a1, a2, rfl, rfl⟩ := mk14 hc
      exact ⟨_, rfl, rfl, _, rfl, eqT (n := 14) rfl ⟨_, rfl, _, rfl, na, _, _, _, rfl, rfl, .of hna, rfl, _, rfl, na, _, _, _, rfl, rfl, .of hna, rfl, c, h, a1, a2, rfl, x, res⟩⟩
    · obtain ⟨a1, a2, rfl, rfl⟩ := mk15 hc
      refine ⟨_, rfl, rfl, _, rfl, eqF (n := 14) (by decide) ?_⟩
      exact ⟨_, rfl, rfl, _, rfl, eqT (n := 15) rfl ⟨_, rfl, _, rfl, na, _, _, _, rfl, rfl, .of hna, rfl, _, rfl, na, _, _, _, rfl, rfl, .of hna, rfl, c, h, a1, a2, rfl, x, res⟩⟩
    · obtain ⟨a1, a2, rfl, rfl⟩ := mk16 hc
      refine ⟨_, rfl, rfl, _, rfl, eqF (n := 14) (by decide) ?_⟩
      refine ⟨_, rfl, rfl, _, rfl, eqF (n := 15) (by decide) ?_⟩
      exact ⟨_, rfl, rfl, _, rfl, eqT (n := 16) rfl ⟨_, rfl, _, rfl, na, _, _, _, rfl, rfl, .of hna, rfl, _, rfl, na, _, _, _, rfl, rfl, .of hna, rfl, c, h, a1, a2, rfl, x, res⟩⟩
    · obtain ⟨a1, a2, a3, rfl, rfl⟩ := mk17 hc
      refine ⟨_, rfl, rfl, _, rfl, eqF (n := 14) (by decide) ?_⟩
      refine ⟨_, rfl, rfl, _, rfl, eqF (n := 15) (by decide) ?_⟩
      refine ⟨_, rfl, rfl, _, rfl, eqF (n := 16) (by decide) ?_⟩
      exact ⟨_, rfl, rfl, _, rfl, eqT (n := 17) rfl ⟨_, rfl, _, rfl, na, _, _, _, rfl, rfl, .of hna, rfl, _, rfl, na, _, _, _, rfl, rfl, .of hna, rfl, _, rfl, na, _, _, _, rfl, rfl, .of hna, rfl, c, h, a1, a2, a3, rfl, x, res⟩⟩
    · obtain ⟨a1, a2, rfl, rfl⟩ := mk18 hc
      refine ⟨_, rfl, rfl, _, rfl, eqF (n := 14) (by decide) ?_⟩
      refine ⟨_, rfl, rfl, _, rfl, eqF (n := 15) (by decide) ?_⟩
      refine ⟨_, rfl, rfl, _, rfl, eqF (n := 16) (by decide) ?_⟩
      refine ⟨_, rfl, rfl, _, rfl, eqF (n := 17) (by decide) ?_⟩
      exact ⟨_, rfl, rfl, _, rfl, eqT (n := 18) rfl ⟨_, rfl, _, rfl, na, _, _, _, rfl, rfl, .of hna, rfl, _, rfl, na, _, _, _, rfl, rfl, .of hna, rfl, c, h, a1, a2, rfl, x, res⟩⟩
    · obtain ⟨a1, a2, a3, rfl, rfl⟩ := mk19 hc
      refine ⟨_, rfl, rfl, _, rfl, eqF (n := 14) (by decide) ?_⟩
      refine ⟨_, rfl, rfl, _, rfl, eqF (n := 15) (by decide) ?_⟩
      refine ⟨_, rfl, rfl, _, rfl, eqF (n := 16) (by decide) ?_⟩
      refine ⟨_, rfl, rfl, _, rfl, eqF (n := 17) (by decide) ?_⟩
      refine ⟨_, rfl, rfl, _, rfl, eqF (n := 18) (by decide) ?_⟩
      exact ⟨_, rfl, rfl, _, rfl, eqT (n := 19) rfl ⟨_, rfl, _, rfl, na, _, _, _, rfl, rfl, .of hna, rfl, _, rfl, na, _, _, _, rfl, rfl, .of hna, rfl, _, rfl, na, _, _, _, rfl, rfl, .of hna, rfl, c, h, a1, a2, a3, rfl, x, res⟩⟩
    · obtain ⟨a1, a2, rfl, rfl⟩ := mk21 hc
      refine ⟨_, rfl, rfl, _, rfl, eqF (n := 14) (by decide) ?_⟩
      refine ⟨_, rfl, rfl, _, rfl, eqF (n := 15) (by decide) ?_⟩
      refine ⟨_, rfl, rfl, _, rfl, eqF (n := 16) (by decide) ?_⟩
      refine ⟨_, rfl, rfl, _, rfl, eqF (n := 17) (by decide) ?_⟩
      refine ⟨_, rfl, rfl, _, rfl, eqF (n := 18) (by decide) ?_⟩
      refine ⟨_, rfl, rfl, _, rfl, eqF (n := 19) (by decide) ?_⟩
      exact ⟨_, rfl, _, rfl, na, _, _, _, rfl, rfl, .of hna, rfl, _, rfl, na, _, _, _, rfl, rfl, .of hna, rfl, c, h, a1, a2, rfl, x, res⟩
theorem call_num {p : Nat} {args : List Nat} {cl : Sq36.Call} (h : mkCall p args = some cl) : p = 1 ∨ ok_answer_of_change_p p ∨ ok_answer_of_taking_p p ∨ ok_answer_of_keeping_p p ∨ ok_answer_of_question_p p := by
  unfold ok_answer_of_change_p ok_answer_of_taking_p ok_answer_of_keeping_p ok_answer_of_question_p
  unfold mkCall at h
  split at h
  all_goals first | omega | (cases h; done) | skip
def sp_answer_of (A : Ad) : Sp := fun vs H Q _ => ∃ (c : Cells) (h : Sq36.House) (p : Nat) (args : List Nat) (na : Addr) (cl : Sq36.Call), vs = [.ref c.hs, .int (p : Int), .ref na] ∧ HouseAt A c H h ∧ H na = some (.lst (nums args)) ∧ ¬ c.M h.hands na ∧ mkCall p args = some cl ∧ Res A c h H (h.step cl) Q
theorem ok_answer_of (T : Txt K mg A D) : FnOk P w K mg base CX0 12 A.f_answer_of D.d_answer_of ["house", "call", "numbers"] (sp_answer_of A) := by
  refine T.f_answer_of.ok sc_answer_of (fun vs H Q E h => ?_) (fun cdv ar outer s H vs Q E hr h => have hu := hu_of hr; ⟨_, (pss_cons (ps_if (pt_cmpR op_eq (pv 1) (pe_glob (v := .int (1)) (by rfl) (Classical.choose_spec T.g_BEGIN) ⟨_, rfl⟩) (nomark _))
      (pss_one (ps_ret (pe_call (ok_begin T) (by exact hr.mono (by decide)) (by rfl) T.m_begin T.f_begin.kp T.b_begin .nil pass0 (pa_cons (pv 0) (pa_cons (pe_ix ix_list (pv 2) pe_int (by exact fun _ _ => rfl)) pa_nil)))))
      pss_nil)
    (pss_cons (ps_if (pt_cmpR op_le (pv 1) (pe_glob (v := .int (7)) (by rfl) (Classical.choose_spec T.g_LESS) ⟨_, rfl⟩) (nomark _))
      (pss_one (ps_ret (pe_call (ok_answer_of_change T) (by exact hr.mono (by decide)) (by rfl) T.m_answer_of_change T.f_answer_of_change.kp T.b_answer_of_change .nil pass0 (pa_cons (pv 0) (pa_cons (pv 1) (pa_cons (pv 2) pa_nil))))))
      pss_nil)
    (pss_cons (ps_if (pt_cmpR op_le (pv 1) (pe_glob (v := .int (10)) (by rfl) (Classical.choose_spec T.g_REDO) ⟨_, rfl⟩) (nomark _))
      (pss_one (ps_ret (pe_call (ok_answer_of_taking T) (by exact hr.mono (by decide)) (by rfl) T.m_answer_of_taking T.f_answer_of_taking.kp T.b_answer_of_taking .nil pass0 (pa_cons (pv 0) (pa_cons (pv 1) (pa_cons (pv 2) pa_nil))))))
      pss_nil)
    (pss_cons (ps_if (PW.pt (pw_or (pt_cmpR op_le (pv 1) (pe_glob (v := .int (13)) (by rfl) (Classical.choose_spec T.g_FORGET) ⟨_, rfl⟩) (nomark _)) (pw_or1 (pt_cmpR op_eq (pv 1) (pe_glob (v := .int (20)) (by rfl) (Classical.choose_spec T.g_KEPT) ⟨_, rfl⟩) (nomark _)))))
      (pss_one (ps_ret (pe_call (ok_answer_of_keeping T) (by exact hr.mono (by decide)) (by rfl) T.m_answer_of_keeping T.f_answer_of_keeping.kp T.b_answer_of_keeping .nil pass0 (pa_cons (pv 0) (pa_cons (pv 1) (pa_cons (pv 2) pa_nil))))))
      pss_nil)
    (pss_one (ps_ret (pe_call (ok_answer_of_question T) (by exact hr.mono (by decide)) (by rfl) T.m_answer_of_question T.f_answer_of_question.kp T.b_answer_of_question .nil pass0 (pa_cons (pv 0) (pa_cons (pv 1) (pa_cons (pv 2) pa_nil)))))))))), ?_⟩)
  · obtain ⟨c, h, p, args, na, cl, rfl, _⟩ := h; rfl
  · obtain ⟨c, h, p, args, na, cl, rfl, x, hna, _, hc, res⟩ := h
    rcases call_num hc with rfl | hp | hp | hp | hp
    · obtain ⟨a1, rfl, rfl⟩ := mk1 hc
      exact ⟨_, rfl, rfl, _, rfl, eqT (n := 1) rfl ⟨_, rfl, _, rfl, na, _, _, _, rfl, rfl, .of hna, rfl, c, h, a1, rfl, x, res⟩⟩
    · have b : 2 ≤ p ∧ p ≤ 7 := by unfold ok_answer_of_change_p at hp; omega
      exact ⟨_, rfl, rfl, _, rfl, eqF (n := 1) (by omega) ⟨_, rfl, _, _, rfl, rfl, _, rfl, leT (n := 7) b.2 ⟨_, rfl, _, rfl, _, rfl, c, h, p, args, na, cl, rfl, hp, x, hna, hc, res⟩⟩⟩
    · have b : 8 ≤ p ∧ p ≤ 10 := by unfold ok_answer_of_taking_p at hp; omega
      exact ⟨_, rfl, rfl, _, rfl, eqF (n := 1) (by omega) ⟨_, rfl, _, _, rfl, rfl, _, rfl, leF (n := 7) (by omega) ⟨_, rfl, _, _, rfl, rfl, _, rfl, leT (n := 10) b.2 ⟨_, rfl, _, rfl, _, rfl, c, h, p, args, na, cl, rfl, hp, x, hna, hc, res⟩⟩⟩⟩
    · have b : (11 ≤ p ∧ p ≤ 13) ∨ p = 20 := by unfold ok_answer_of_keeping_p at hp; omega
      refine ⟨_, rfl, rfl, _, rfl, eqF (n := 1) (by omega) ⟨_, rfl, _, _, rfl, rfl, _, rfl, leF (n := 7) (by omega) ⟨_, rfl, _, _, rfl, rfl, _, rfl, leF (n := 10) (by omega) ⟨_, rfl, _, _, rfl, rfl, _, rfl, ?_⟩⟩⟩⟩
      rcases b with b | b
      · exact leT (n := 13) b.2 (iteT ⟨_, rfl, _, rfl, _, rfl, c, h, p, args, na, cl, rfl, hp, x, hna, hc, res⟩)
      · exact leF (n := 13) (by omega) ⟨_, rfl, rfl, _, rfl, eqT (n := 20) b ⟨_, rfl, _, rfl, _, rfl, c, h, p, args, na, cl, rfl, hp, x, hna, hc, res⟩⟩
    · have b : 14 ≤ p ∧ p ≠ 20 := by unfold ok_answer_of_question_p at hp; omega
      exact ⟨_, rfl, rfl, _, rfl, eqF (n := 1) (by omega) ⟨_, rfl, _, _, rfl, rfl, _, rfl, leF (n := 7) (by omega) ⟨_, rfl, _, _, rfl, rfl, _, rfl, leF (n := 10) (by omega) ⟨_, rfl, _, _, rfl, rfl, _, rfl, leF (n := 13) (by omega) ⟨_, rfl, rfl, _, rfl, eqF (n := 20) b.2 ⟨_, rfl, _, rfl, _, rfl, c, h, p, args, na, cl, rfl, hp, x, hna, hc, res⟩⟩⟩⟩⟩⟩
end
end Ho
end

section
set_option Elab.async false
set_option maxRecDepth 100000
set_option maxHeartbeats 4000000
/-! The list of calls. -/
namespace Ho
open PySem PySem.W PyProof.Rows L2
section
variable {P : Program} {w : World} {K : PySem.W.Frag} {mg : Str → Option Value} {base : Heap} {A : Ad} {D : Fd}
/-- a list of others is written: the house stands -/
theorem HouseAt.foreign {c : Cells} {H : Hp} {h : Sq36.House} {b : Addr} {o : HO} (x : HouseAt A c H h) (fb : c.fr b) : HouseAt A c (upd H b o) h := by
  have nb := x.apart.fr b fb
  have kp : ∀ {a : Addr} {u : HO}, a ≠ b → H a = some u → upd H b o a = some u := fun ne e => by rw [upd_ne ne]; exact e
  have im : ∀ {a : Addr}, ¬ c.M h.hands a → a ≠ b := fun n z => n (.inr (z ▸ fb))
  have mu : ∀ {a : Addr}, c.M0 h.hands a → a ≠ b := fun m z => nb (z ▸ m)
  have sl : ∀ t : Slot, t.In h.hands → ∀ {u : HO}, H (c.sl t) = some u → upd H b o (c.sl t) = some u := fun t ht {u} e => kp (mu (c.inM t ht)) e
  refine ⟨x.ok, ?_, kp (im x.ndk) x.dk, x.ndk, sl .dl trivial x.dl, ?_, sl .lt trivial x.lt, fun k hk => ?_, fun i m hm => ?_, x.apart, (fun a ha z => ?_), x.late, fun k hk => ?_⟩
  · obtain ⟨d, e⟩ := x.ob
    exact ⟨d, sl .hs trivial e⟩
  · exact x.dd.keep fun a u na e => kp (im na) e
  · have d := x.desk k hk
    refine ⟨?_, sl (.ca k) hk d.ca, sl (.sa k) hk d.sa, sl (.ha k) hk d.ha, fun j hj => kp (im (d.nsr j hj)) (d.sr j hj), d.nsr⟩
    obtain ⟨d', e⟩ := d.ob
    exact ⟨d', sl (.da k) hk e⟩
  · obtain ⟨ns, l⟩ := x.letter i m hm
    exact ⟨ns, l.keep fun a u na e => kp (im na) e⟩
  · by_cases e : a = b
    · rw [e, upd_same] at z; cases z
    · rw [upd_ne e] at z; exact x.frt a ha z
  · exact (x.fa k hk).keep fun u e => sl (.fa k) hk e
/-- a new list of others -/
theorem HouseAt.adopt {c : Cells} {H : Hp} {h : Sq36.House} {b : Addr} {o : HO} (x : HouseAt A c H h) (f : c.fr = fun _ => False) (nb : H b = none) : HouseAt A { c with fr := fun a => a = b } (upd H b o) h := by
  have M0 : ∀ a, ({ c with fr := fun a => a = b } : Cells).M0 h.hands a = c.M0 h.hands a := fun a => rfl
  have nM : ∀ {a : Addr} {u : HO}, ¬ c.M h.hands a → H a = some u → ¬ ({ c with fr := fun a => a = b } : Cells).M h.hands a := fun {a u} n e m => by
    rcases m with m | m
    · exact n (.inl m)
    · have m' : a = b := m
      rw [m', nb] at e; cases e
  have s : Same H (upd H b o) := same_upd nb
  have y := x.same s
  refine ⟨x.ok, y.ob, y.dk, nM x.ndk x.dk, y.dl, fun d hd => ?_, y.lt, fun k hk => ?_, fun i m hm => ?_, ⟨x.apart.inj, fun a ha m => ?_⟩, (fun a ha z => ?_), x.late, y.fa⟩
  · obtain ⟨sw, r, q⟩ := x.dd d hd
    have q' := q.keep (.of s)
    refine ⟨sw, r, q'.ob, q'.saw, q'.act, ?_, nM q.nsw q.saw, ?_⟩
    · obtain ⟨dx, e⟩ := q.ob; exact nM q.na e
    · have := q.act
      have hr : ∃ u, H r = some u := by
        cases ea : d.act <;> rw [ea] at this <;> (obtain ⟨dx, e⟩ := this; exact ⟨_, e⟩)
      obtain ⟨u, e⟩ := hr
      exact nM q.nr e
  · have d := x.desk k hk
    have d' := y.desk k hk
    exact ⟨d'.ob, d'.ca, d'.sa, d'.ha, d'.sr, fun j hj => nM (d.nsr j hj) (d.sr j hj)⟩
  · obtain ⟨ns, l⟩ := x.letter i m hm
    have l' := l.keep (.of s)
    obtain ⟨dx, e⟩ := l.ob
    exact ⟨ns, l'.ob, l'.lc, l'.ln, nM l.nla e, nM l.nlc l.lc, nM l.nln l.ln⟩
  · have ha' : a = b := ha
    exact x.there (.inl m) (ha' ▸ nb)
  · have ha' : a = b := ha
    rw [ha', upd_same] at z; cases z
theorem nums_of {l : List Int} (h : ∀ x ∈ l, 0 ≤ x) : l.map V.int = nums (l.map Int.toNat) := by
  unfold nums
  rw [List.map_map]
  refine List.map_congr_left fun x hx => ?_
  show V.int x = V.int ((x.toNat : Nat) : Int)
  rw [Int.toNat_of_nonneg (h x hx)]
theorem cut_at {ns args rest : List Int} {p : Int} {i : Nat} (h : ns.drop i = p :: (args ++ rest)) : cutV (ns.map V.int) (some ((i : Int) + 1)) (some ((i : Int) + 1 + (args.length : Int))) = args.map V.int := by
  have hl : i + 1 + args.length ≤ ns.length := by
    have := congrArg List.length h
    rw [List.length_drop, List.length_cons, List.length_append] at this
    omega
  have e1 : ((i : Int) + 1) = ((i + 1 : Nat) : Int) := by omega
  have e2 : ((i : Int) + 1 + (args.length : Int)) = ((i + 1 + args.length : Nat) : Int) := by omega
  unfold cutV
  rw [e2, e1, HT.sIx_nat, HT.sIx_nat, List.length_map, Nat.min_eq_left (by omega), Nat.min_eq_left (by omega), ← List.map_drop, ← List.map_take]
  congr 1
  have d1 : ns.drop (i + 1) = args ++ rest := by
    rw [← List.drop_drop, h]
    rfl
  rw [d1, Nat.add_sub_cancel_left, List.take_left']
  rfl
theorem SqL.keep' {K : PySem.W.Frag} {H H' : Hp} {a : Addr} {xs : List V} (s : SqL K H a xs) (k : ∀ o, H a = some o → H' a = some o) : SqL K H' a xs := by
  rcases s with (s | ⟨o, s⟩) | s
  · exact .inl (.inl (k _ s))
  · exact .inl (.inr ⟨o, k _ s⟩)
  · exact .inr s
theorem tb_sizes {p : Int} {n : Nat} (h : (p, n) ∈ sizes) : (p, (n : Int)) ∈ [((1 : Int), (1 : Int)), ((2 : Int), (3 : Int)), ((3 : Int), (4 : Int)), ((4 : Int), (4 : Int)), ((5 : Int), (3 : Int)), ((6 : Int), (3 : Int)), ((7 : Int), (3 : Int)), ((8 : Int), (2 : Int)), ((9 : Int), (1 : Int)), ((10 : Int), (1 : Int)), ((11 : Int), (2 : Int)), ((12 : Int), (1 : Int)), ((13 : Int), (1 : Int)), ((14 : Int), (2 : Int)), ((15 : Int), (2 : Int)), ((16 : Int), (2 : Int)), ((17 : Int), (3 : Int)), ((18 : Int), (2 : Int)), ((19 : Int), (3 : Int)), ((20 : Int), (1 : Int)), ((21 : Int), (2 : Int))] := by
  have e : sizes.map (fun q => (q.1, (q.2 : Int))) = [((1 : Int), (1 : Int)), ((2 : Int), (3 : Int)), ((3 : Int), (4 : Int)), ((4 : Int), (4 : Int)), ((5 : Int), (3 : Int)), ((6 : Int), (3 : Int)), ((7 : Int), (3 : Int)), ((8 : Int), (2 : Int)), ((9 : Int), (1 : Int)), ((10 : Int), (1 : Int)), ((11 : Int), (2 : Int)), ((12 : Int), (1 : Int)), ((13 : Int), (1 : Int)), ((14 : Int), (2 : Int)), ((15 : Int), (2 : Int)), ((16 : Int), (2 : Int)), ((17 : Int), (3 : Int)), ((18 : Int), (2 : Int)), ((19 : Int), (3 : Int)), ((20 : Int), (1 : Int)), ((21 : Int), (2 : Int))] := rfl
  rw [← e]
  exact List.mem_map.mpr ⟨_, h, rfl⟩
def posOf (σ : L2.St) : Nat := match (σ[3]? : Option (Option V)) with
  | some (some (V.int z)) => z.toNat
  | _ => 0
/-- the calls can be read -/
def Cal (K : PySem.W.Frag) (c : Cells) (n : Nat) (tp a : Addr) (xs : List V) (H : Hp) : Prop := (∀ H' : Hp, SqL K H' a xs) ∨ (Rd H a (.lst xs) ∧ a ≠ tp ∧ ¬ c.M0 n a)
theorem Cal.sq {K : PySem.W.Frag} {c : Cells} {n : Nat} {tp a : Addr} {xs : List V} {H : Hp} (x : Cal K c n tp a xs H) : SqL K H a xs := x.elim (fun f => f H) fun f => .inl f.1
theorem Cal.same {K : PySem.W.Frag} {c : Cells} {n : Nat} {tp a : Addr} {xs : List V} {H H' : Hp} (x : Cal K c n tp a xs H) (s : Same H H') : Cal K c n tp a xs H' :=
  x.imp_right fun f => ⟨f.1.imp (fun e => s _ _ e) fun ⟨o, e⟩ => ⟨o, s _ _ e⟩, f.2⟩
def sp_answers_of (A : Ad) (K : PySem.W.Frag) : Sp := fun vs H Q _ => ∃ (c : Cells) (a : Addr) (ns : List Int) (cs : List (List (List Int))), vs = [.ref c.hs, .ref a] ∧ HouseAt A c H Sq36.fresh ∧ c.fr = (fun _ => False) ∧ ((∀ H' : Hp, SqL K H' a (ns.map V.int)) ∨ (Rd H a (.lst (ns.map V.int)) ∧ ¬ c.M0 1 a)) ∧ Parse ns cs ∧ (∀ x ∈ ns, 0 ≤ x) ∧ ns.length ≤ 1300 ∧ (run Sq36.fresh cs).length ≤ 10000000 ∧
  ∀ (H' : Hp) (p : Addr), H' p = some (.lst ((run Sq36.fresh cs).map V.int)) → Q (.ref p) H'
set_option maxHeartbeats 8000000 in
theorem ok_answers_of (T : Txt K mg A D) : FnOk P w K mg base CX0 13 A.f_answers_of D.d_answers_of ["house", "calls"] (sp_answers_of A K) := by
  refine T.f_answers_of.ok sc_answers_of (fun vs H Q E h => ?_) (fun cdv ar outer s H vs Q E hr h => have hu := hu_of hr; ⟨_, (pss_cons (ps_set (i := 2) sc_answers_of.nd rfl (Or.inl rfl) (pe_lst pa_nil))
    (pss_cons (ps_set (i := 3) sc_answers_of.nd rfl (Or.inl rfl) pe_int)
    (pss_cons (ps_while PassesOwn.never (pt_cmpR op_lt (pv 3) (pe_callB call_len_seq (by rfl) T.n_len PySem.boot_len (pa_cons (pv 1) pa_nil)) (nomark _))
      (pss_cons (ps_set (i := 4) sc_answers_of.nd rfl (Or.inl rfl) (pe_op op_add (pe_op op_add (pv 3) pe_int) (pe_ix (ix_tb T.tb_SIZES) (pe_glob (v := .ref A.a_SIZES) (by rfl) T.c_SIZES rfl) (pe_ix ix_list (pv 1) (pv 3) (by exact fun _ _ => rfl)) (by exact fun _ _ => rfl))))
    (pss_cons (ps_set (i := 5) sc_answers_of.nd rfl (Or.inl rfl) (pe_call (ok_answer_of T) (by exact hr.mono (by decide)) (by rfl) T.m_answer_of T.f_answer_of.kp T.b_answer_of .nil pass0 (pa_cons (pv 0) (pa_cons (pe_ix ix_list (pv 1) (pv 3) (by exact fun _ _ => rfl)) (pa_cons (pe_slice sl_list (pv 1) (po_some (pe_op op_add (pv 3) pe_int)) (po_some (pv 4))) pa_nil)))))
    (pss_cons (ps_expr (pe_bm PySem.F.plainAttrs_list PySem.F.slot_list_append PySem.F.type_list_append mt_append (pv 2) (pa_cons (pe_callB call_len_seq (by rfl) T.n_len PySem.boot_len (pa_cons (pv 5) pa_nil)) pa_nil)))
    (pss_cons (ps_expr (pe_bm PySem.F.plainAttrs_list PySem.F.slot_list_extend PySem.F.type_list_extend mt_extend (pv 2) (pa_cons (pv 5) pa_nil)))
    (pss_one (ps_set (i := 3) sc_answers_of.nd rfl (Or.inl rfl) (pv 4))))))))
    (pss_one (ps_ret (pv 2)))))), ?_⟩)
  · obtain ⟨c, a, ns, cs, rfl, _⟩ := h; rfl
  · obtain ⟨c0, a, ns, cs, rfl, x0, f0, ha, ps, nn, nl, rl, q⟩ := h
    refine ⟨Nat.zero_le _, fun tp ntp => ?_⟩
    have x1 := x0.adopt (o := .lst []) f0 ntp
    have cal0 : Cal K { c0 with fr := fun b => b = tp } 1 tp a (ns.map V.int) (upd H tp (.lst [])) := by
      rcases ha with e | ⟨e | ⟨o, e⟩, nMa⟩
      · exact .inl e
      · exact .inr ⟨.inl (same_upd ntp _ _ e), (fun z => by rw [z, ntp] at e; cases e), nMa⟩
      · exact .inr ⟨.inr ⟨o, same_upd ntp _ _ e⟩, (fun z => by rw [z, ntp] at e; cases e), nMa⟩
    refine while_by (fun σ H' => ∃ (c : Cells) (h : Sq36.House) (i : Nat) (cs' : List (List (List Int))) (tl : List Int) (v4 v5 : Option V), σ = [some (.ref c0.hs), some (.ref a), some (.ref tp), some (.int (i : Int)), v4, v5] ∧ c.hs = c0.hs ∧ c.fr = (fun b => b = tp) ∧ HouseAt A c H' h ∧ Cal K c h.hands tp a (ns.map V.int) H' ∧ H' tp = some (.lst (tl.map V.int)) ∧ i ≤ ns.length ∧ Parse (ns.drop i) cs' ∧ run Sq36.fresh cs = tl ++ run h cs')
      (fun σ _ => ns.length - posOf σ) ?_ ?_ ?_
    · exact ⟨{ c0 with fr := fun b => b = tp }, Sq36.fresh, 0, cs, [], none, none, rfl, rfl, rfl, x1, cal0, upd_same, Nat.zero_le _, by rw [List.drop_zero]; exact ps, rfl⟩
    · rintro σ H' ⟨c, h, i, cs', tl, v4, v5, rfl, ec, ef, x, cal, htp, hi, pr, er⟩
      refine ⟨_, rfl, _, rfl, a, _, rfl, .inl cal.sq, _, _, rfl, rfl, _, rfl, ?_⟩
      rw [List.length_map]
      have gl : decide ((i : Int) < (ns.length : Int)) = decide (i < ns.length) := dec_lt _ _
      have ttp : c.fr tp := by rw [ef]
      by_cases hlt : i < ns.length
      case neg =>
        rw [decide_eq_false hlt] at gl
        have e0 : ns.drop i = [] := List.drop_eq_nil_of_le (by omega)
        rw [e0] at pr
        cases pr
        rw [run_nil, List.append_nil] at er
        refine if_false' gl ⟨_, rfl, q H' tp ?_⟩
        rw [htp, er]
      rw [decide_eq_true hlt] at gl
      obtain ⟨p, n, args, rest, cs2, hd, hm, hal, pr2, rfl⟩ : ∃ p n args rest cs2, ns.drop i = p :: (args ++ rest) ∧ (p, n) ∈ sizes ∧ args.length = n ∧ Parse rest cs2 ∧ cs' = [p :: args] :: cs2 := by
        generalize hz : ns.drop i = z at pr
        cases pr with
        | nil =>
          exfalso
          have := congrArg List.length hz
          rw [List.length_drop] at this
          simp at this
          omega
        | @cons p n args rest cs2 hm hal pr2 => exact ⟨p, n, args, rest, cs2, rfl, hm, hal, pr2, rfl⟩
      have hlen := congrArg List.length hd
      rw [List.length_drop, List.length_cons, List.length_append] at hlen
      have hp : ns[i]? = some p := by
        have : (ns.drop i)[0]? = some p := by rw [hd]; rfl
        rw [List.getElem?_drop] at this
        exact this
      have hpm : (ns.map V.int)[i]? = some (.int p) := by rw [List.getElem?_map, hp]; rfl
      have p0 : 0 ≤ p := nn p (List.mem_of_getElem? hp)
      have argsM : ∀ x ∈ args, 0 ≤ x := fun x hx => nn x (List.mem_of_mem_drop (i := i) (by rw [hd]; exact List.mem_cons_of_mem _ (List.mem_append.mpr (.inl hx))))
      obtain ⟨cl, hcl, _⟩ := step_call hm hal
      have tbl : (p, (n : Int)) ∈ [((1 : Int), (1 : Int)), ((2 : Int), (3 : Int)), ((3 : Int), (4 : Int)), ((4 : Int), (4 : Int)), ((5 : Int), (3 : Int)), ((6 : Int), (3 : Int)), ((7 : Int), (3 : Int)), ((8 : Int), (2 : Int)), ((9 : Int), (1 : Int)), ((10 : Int), (1 : Int)), ((11 : Int), (2 : Int)), ((12 : Int), (1 : Int)), ((13 : Int), (1 : Int)), ((14 : Int), (2 : Int)), ((15 : Int), (2 : Int)), ((16 : Int), (2 : Int)), ((17 : Int), (3 : Int)), ((18 : Int), (2 : Int)), ((19 : Int), (3 : Int)), ((20 : Int), (1 : Int)), ((21 : Int), (2 : Int))] := by
        exact tb_sizes hm
      refine if_true' gl ⟨_, rfl, _, _, rfl, rfl, _, rfl, _, rfl, a, _, _, _, rfl, rfl, cal.sq, atI_nat hpm, p, (n : Int), rfl, rfl, tbl, _, _, rfl, rfl, ?_⟩
      refine ⟨_, rfl, _, rfl, _, rfl, a, _, _, _, rfl, rfl, cal.sq, atI_nat hpm, _, rfl, _, rfl, _, _, rfl, rfl, _, rfl, _, rfl, _, rfl, a, _, rfl, cal.sq, fun na nna => ?_⟩
      have x2 := x.same (same_upd (o := .lst (cutV (ns.map V.int) (some ((i : Int) + 1)) (some ((i : Int) + 1 + (n : Int))))) nna)
      have hna : upd H' na (.lst (cutV (ns.map V.int) (some ((i : Int) + 1)) (some ((i : Int) + 1 + (n : Int))))) na = some (.lst (nums (args.map Int.toNat))) := by
        rw [upd_same, ← hal, cut_at hd, nums_of argsM]
      have s2 : Same H' (upd H' na (.lst (cutV (ns.map V.int) (some ((i : Int) + 1)) (some ((i : Int) + 1 + (n : Int)))))) := same_upd nna
      have nMna : ¬ c.M h.hands na := x.fresh nna
      generalize upd H' na (.lst (cutV (ns.map V.int) (some ((i : Int) + 1)) (some ((i : Int) + 1 + (n : Int))))) = H2 at x2 hna s2 ⊢
      have vs0 : [V.ref c0.hs, V.int p, V.ref na] = [V.ref c.hs, V.int ((p.toNat : Nat) : Int), V.ref na] := by rw [ec, Int.toNat_of_nonneg p0]
      refine ⟨c, h, p.toNat, args.map Int.toNat, na, cl, vs0, x2, hna, nMna, hcl, fun H3 c3 p3 e1 e2 x3 fr3 n3 h3 => ?_⟩
      have ttp3 : c3.fr tp := by rw [e2]; exact ttp
      have h2tp := s2 _ _ htp
      have h3tp := (fr3 tp _ (x.apart.fr tp ttp) h2tp).1
      have p3tp : p3 ≠ tp := fun z => by rw [z, h2tp] at n3; cases n3
      rw [run_cons h hm hal hcl] at er
      have lens := congrArg List.length er
      simp only [List.length_append, List.length_cons] at lens
      have big : 10000000 < sizeLine := by decide
      have ol : (outs (h.step cl).2).length = (h.step cl).2.out.length + 1 := by unfold outs; rw [List.length_map, List.length_cons]
      refine ⟨_, rfl, .inl ⟨rfl, _, .of h3tp⟩, _, rfl, p3, _, rfl, .inl (.of h3), tp, _, _, rfl, rfl, h3tp, (by rw [List.length_map]; omega), ?_⟩
      refine ⟨_, rfl, .inl ⟨rfl, _, .of upd_same⟩, _, rfl, tp, p3, _, _, rfl, rfl, upd_same, (by rw [upd_ne p3tp]; exact h3), (by rw [List.length_append, List.length_map, ol, List.length_singleton]; omega), ?_⟩
      have calN : Cal K c3 (h.step cl).1.hands tp a (ns.map V.int) (upd (upd H3 tp (.lst (tl.map V.int ++ [V.int ((outs (h.step cl).2).length : Int)]))) tp (.lst (tl.map V.int ++ [V.int ((outs (h.step cl).2).length : Int)] ++ outs (h.step cl).2))) := by
        rcases cal with f | ⟨rd, ne, nm⟩
        · exact .inl f
        · rcases rd with e | ⟨o, e⟩
          · have := fr3 a _ nm (s2 _ _ e)
            exact .inr ⟨.inl (by rw [upd_ne ne, upd_ne ne]; exact this.1), ne, this.2⟩
          · have := fr3 a _ nm (s2 _ _ e)
            exact .inr ⟨.inr ⟨o, by rw [upd_ne ne, upd_ne ne]; exact this.1⟩, ne, this.2⟩
      refine ⟨_, rfl, ⟨c3, (h.step cl).1, i + 1 + n, cs2, tl ++ ((((h.step cl).2.value :: (h.step cl).2.out).length : Nat) : Int) :: ((h.step cl).2.value :: (h.step cl).2.out), _, _, rfl, e1.trans ec, e2.trans ef, (x3.foreign ttp3).foreign ttp3, calN, ?_, by omega, ?_, ?_⟩, ?_⟩
      · rw [upd_same, ol]
        unfold outs
        simp
      · have : ns.drop (i + 1 + n) = rest := by
          rw [← List.drop_drop, ← List.drop_drop, hd]
          show List.drop n (args ++ rest) = rest
          rw [← hal, List.drop_left]
        rw [this]
        exact pr2
      · rw [er]
        simp
      · show ns.length - ((i : Int) + 1 + (n : Int)).toNat < ns.length - (i : Int).toNat
        omega
    · intro σ H Q Q' hq h
      obtain ⟨v, e, v2, e2, a, xs, e3, sq, i, j, e4, e5, c, e6, h7⟩ := h
      exact ⟨v, e, v2, e2, a, xs, e3, sq, i, j, e4, e5, c, e6, hq _ _ h7⟩
def spAns (K : PySem.W.Frag) : Sp := fun vs H Q _ => ∃ (a : Addr) (ns : List Int) (cs : List (List (List Int))), vs = [.ref a] ∧ SqL K H a (ns.map V.int) ∧ Parse ns cs ∧ (∀ x ∈ ns, 0 ≤ x) ∧ ns.length ≤ 1300 ∧ (run Sq36.fresh cs).length ≤ 10000000 ∧
  ∀ (H' : Hp) (p : Addr), H' p = some (.lst ((run Sq36.fresh cs).map V.int)) → Q (.ref p) H'
theorem ok_answers (T : Txt K mg A D) : FnOk P w K mg base CX0 14 A.f_answers D.d_answers ["calls"] (spAns K) := by
  refine T.f_answers.ok sc_answers (fun vs H Q E h => ?_) (fun cdv ar outer s H vs Q E hr h => have hu := hu_of hr; ⟨_, (pss_one (ps_ret (pe_call (ok_answers_of T) (by exact hr.mono (by decide)) (by rfl) T.m_answers_of T.f_answers_of.kp T.b_answers_of .nil pass0 (pa_cons (pe_make T.mk_House (ok_House_init T) (by exact hr.mono (by decide)) (by rfl) T.c_House T.b_House_init .nil pass0 (pa_cons pe_int pa_nil)) (pa_cons (pv 0) pa_nil))))), ?_⟩)
  · obtain ⟨a, ns, cs, rfl, _⟩ := h; rfl
  · obtain ⟨a, ns, cs, rfl, ha, ps, nn, nl, rl, q⟩ := h
    intro p dx np nd ne
    refine ⟨p, dx, H, 1, rfl, rfl, np, nd, ne, Nat.le_refl _, by decide, fun H1 c e ef x f => ⟨rfl, _, rfl, ?_⟩⟩
    refine ⟨c, a, ns, cs, by rw [e]; rfl, x, ef, ?_, ps, nn, nl, rl, q⟩
    rcases ha with (z | ⟨o, z⟩) | z
    · exact .inr ⟨.inl (f _ _ z).1, (f _ _ z).2⟩
    · exact .inr ⟨.inr ⟨o, (f _ _ z).1⟩, (f _ _ z).2⟩
    · exact .inl fun _ => .inr z
end
end Ho
end

section
set_option Elab.async false
set_option maxRecDepth 100000
set_option maxHeartbeats 4000000
namespace Ho
open PySem PySem.W PyProof.Rows L2
theorem all_mk {K : PySem.W.Frag} {h : Heap} {mg : Str → Option Value} {fa : Addr} {Gl : Prop} {tk_LEFT : Tok}
    {tk_RIGHT : Tok}
    {tk_BEGINNING : Tok}
    {tk_REACH : Tok}
    {tk_LAST_FIELD : Tok}
    {tk_NOT_REFUSED : Tok}
    {tk_WRONG : Tok}
    {tk_NO_DESK : Tok}
    {tk_NO_LETTER : Tok}
    {tk_NOT_THERE : Tok}
    {tk_TOO_LATE : Tok}
    {tk_FULL : Tok}
    {tk_WITHIN : Tok}
    {tk_MOST_DEEDS : Tok}
    {tk_FIRST_MADE : Tok}
    {tk_ROOT : Tok}
    {tk_BIN : Tok}
    {tk_MOST_DESKS : Tok}
    {tk_GREATEST_TOLD : Tok}
    {tk_MOST_LETTERS : Tok}
    {tk_BEGIN : Tok}
    {tk_MAKE : Tok}
    {tk_MOVE : Tok}
    {tk_TELL : Tok}
    {tk_CLEAR : Tok}
    {tk_ADD : Tok}
    {tk_LESS : Tok}
    {tk_BACK : Tok}
    {tk_UNDO : Tok}
    {tk_REDO : Tok}
    {tk_SEND : Tok}
    {tk_COMES : Tok}
    {tk_FORGET : Tok}
    {tk_TREE : Tok}
    {tk_ROW : Tok}
    {tk_LINE : Tok}
    {tk_VALUES : Tok}
    {tk_AMOUNTS : Tok}
    {tk_FIND : Tok}
    {tk_KEPT : Tok}
    {S_SIZES : Addr} {sn_SIZES : Nat} {st_SIZES_0 su_SIZES_0 st_SIZES_1 su_SIZES_1 st_SIZES_2 su_SIZES_2 st_SIZES_3 su_SIZES_3 st_SIZES_4 su_SIZES_4 st_SIZES_5 su_SIZES_5 st_SIZES_6 su_SIZES_6 st_SIZES_7 su_SIZES_7 st_SIZES_8 su_SIZES_8 st_SIZES_9 su_SIZES_9 st_SIZES_10 su_SIZES_10 st_SIZES_11 su_SIZES_11 st_SIZES_12 su_SIZES_12 st_SIZES_13 su_SIZES_13 st_SIZES_14 su_SIZES_14 st_SIZES_15 su_SIZES_15 st_SIZES_16 su_SIZES_16 st_SIZES_17 su_SIZES_17 st_SIZES_18 su_SIZES_18 st_SIZES_19 su_SIZES_19 st_SIZES_20 su_SIZES_20 : Tok}
    {C_Put : Addr}
    {C_Telling : Addr}
    {C_Clearing : Addr}
    {C_Adding : Addr}
    {C_TakingBack : Addr}
    {C_DoingAgain : Addr}
    {C_Deed : Addr}
    {C_Desk : Addr}
    {C_Letter : Addr}
    {C_House : Addr}
    {C_Outline : Addr}
    {f_Put_init : Addr} {od_Put_init an_Put_init : Option Addr} {sl_Put_init : Array (Option Value)} {oc_Put_init kV_Put_init dc_Put_init pm_Put_init cd_Put_init ct_Put_init : Value}
    {f_Telling_init : Addr} {od_Telling_init an_Telling_init : Option Addr} {sl_Telling_init : Array (Option Value)} {oc_Telling_init kV_Telling_init dc_Telling_init pm_Telling_init cd_Telling_init ct_Telling_init : Value}
    {f_Clearing_init : Addr} {od_Clearing_init an_Clearing_init : Option Addr} {sl_Clearing_init : Array (Option Value)} {oc_Clearing_init kV_Clearing_init dc_Clearing_init pm_Clearing_init cd_Clearing_init ct_Clearing_init : Value}
    {f_Adding_init : Addr} {od_Adding_init an_Adding_init : Option Addr} {sl_Adding_init : Array (Option Value)} {oc_Adding_init kV_Adding_init dc_Adding_init pm_Adding_init cd_Adding_init ct_Adding_init : Value}
    {f_TakingBack_init : Addr} {od_TakingBack_init an_TakingBack_init : Option Addr} {sl_TakingBack_init : Array (Option Value)} {oc_TakingBack_init kV_TakingBack_init dc_TakingBack_init pm_TakingBack_init cd_TakingBack_init ct_TakingBack_init : Value}
    {f_DoingAgain_init : Addr} {od_DoingAgain_init an_DoingAgain_init : Option Addr} {sl_DoingAgain_init : Array (Option Value)} {oc_DoingAgain_init kV_DoingAgain_init dc_DoingAgain_init pm_DoingAgain_init cd_DoingAgain_init ct_DoingAgain_init : Value}
    {f_Deed_init : Addr} {od_Deed_init an_Deed_init : Option Addr} {sl_Deed_init : Array (Option Value)} {oc_Deed_init kV_Deed_init dc_Deed_init pm_Deed_init cd_Deed_init ct_Deed_init : Value}
    {f_stamp : Addr} {od_stamp an_stamp : Option Addr} {sl_stamp : Array (Option Value)} {oc_stamp kV_stamp dc_stamp pm_stamp cd_stamp ct_stamp : Value}
    {f_is_change : Addr} {od_is_change an_is_change : Option Addr} {sl_is_change : Array (Option Value)} {oc_is_change kV_is_change dc_is_change pm_is_change cd_is_change ct_is_change : Value}
    {f_is_in_reach : Addr} {od_is_in_reach an_is_in_reach : Option Addr} {sl_is_in_reach : Array (Option Value)} {oc_is_in_reach kV_is_in_reach dc_is_in_reach pm_is_in_reach cd_is_in_reach ct_is_in_reach : Value}
    {f_has_seen : Addr} {od_has_seen an_has_seen : Option Addr} {sl_has_seen : Array (Option Value)} {oc_has_seen kV_has_seen dc_has_seen pm_has_seen cd_has_seen ct_has_seen : Value}
    {f_tellings_of : Addr} {od_tellings_of an_tellings_of : Option Addr} {sl_tellings_of : Array (Option Value)} {oc_tellings_of kV_tellings_of dc_tellings_of pm_tellings_of cd_tellings_of ct_tellings_of : Value}
    {f_is_about : Addr} {od_is_about an_is_about : Option Addr} {sl_is_about : Array (Option Value)} {oc_is_about kV_is_about dc_is_about pm_is_about cd_is_about ct_is_about : Value}
    {f_is_seen : Addr} {od_is_seen an_is_seen : Option Addr} {sl_is_seen : Array (Option Value)} {oc_is_seen kV_is_seen dc_is_seen pm_is_seen cd_is_seen ct_is_seen : Value}
    {f_amount_of : Addr} {od_amount_of an_amount_of : Option Addr} {sl_amount_of : Array (Option Value)} {oc_amount_of kV_amount_of dc_amount_of pm_amount_of cd_amount_of ct_amount_of : Value}
    {f_holding : Addr} {od_holding an_holding : Option Addr} {sl_holding : Array (Option Value)} {oc_holding kV_holding dc_holding pm_holding cd_holding ct_holding : Value}
    {f_puts_under : Addr} {od_puts_under an_puts_under : Option Addr} {sl_puts_under : Array (Option Value)} {oc_puts_under kV_puts_under dc_puts_under pm_puts_under cd_puts_under ct_puts_under : Value}
    {f_spots_under : Addr} {od_spots_under an_spots_under : Option Addr} {sl_spots_under : Array (Option Value)} {oc_spots_under kV_spots_under dc_spots_under pm_spots_under cd_spots_under ct_spots_under : Value}
    {f_right_behind : Addr} {od_right_behind an_right_behind : Option Addr} {sl_right_behind : Array (Option Value)} {oc_right_behind kV_right_behind dc_right_behind pm_right_behind cd_right_behind ct_right_behind : Value}
    {f_has_right : Addr} {od_has_right an_has_right : Option Addr} {sl_has_right : Array (Option Value)} {oc_has_right kV_has_right dc_has_right pm_has_right cd_has_right ct_has_right : Value}
    {f_Desk_init : Addr} {od_Desk_init an_Desk_init : Option Addr} {sl_Desk_init : Array (Option Value)} {oc_Desk_init kV_Desk_init dc_Desk_init pm_Desk_init cd_Desk_init ct_Desk_init : Value}
    {f_Letter_init : Addr} {od_Letter_init an_Letter_init : Option Addr} {sl_Letter_init : Array (Option Value)} {oc_Letter_init kV_Letter_init dc_Letter_init pm_Letter_init cd_Letter_init ct_Letter_init : Value}
    {f_House_init : Addr} {od_House_init an_House_init : Option Addr} {sl_House_init : Array (Option Value)} {oc_House_init kV_House_init dc_House_init pm_House_init cd_House_init ct_House_init : Value}
    {f_House_start : Addr} {od_House_start an_House_start : Option Addr} {sl_House_start : Array (Option Value)} {oc_House_start kV_House_start dc_House_start pm_House_start cd_House_start ct_House_start : Value}
    {f_has_desk : Addr} {od_has_desk an_has_desk : Option Addr} {sl_has_desk : Array (Option Value)} {oc_has_desk kV_has_desk dc_has_desk pm_has_desk cd_has_desk ct_has_desk : Value}
    {f_is_full : Addr} {od_is_full an_is_full : Option Addr} {sl_is_full : Array (Option Value)} {oc_is_full kV_is_full dc_is_full pm_is_full cd_is_full ct_is_full : Value}
    {f_had : Addr} {od_had an_had : Option Addr} {sl_had : Array (Option Value)} {oc_had kV_had dc_had pm_had cd_had ct_had : Value}
    {f_others_of : Addr} {od_others_of an_others_of : Option Addr} {sl_others_of : Array (Option Value)} {oc_others_of kV_others_of dc_others_of pm_others_of cd_others_of ct_others_of : Value}
    {f_next_count : Addr} {od_next_count an_next_count : Option Addr} {sl_next_count : Array (Option Value)} {oc_next_count kV_next_count dc_next_count pm_next_count cd_next_count ct_next_count : Value}
    {f_do_deed : Addr} {od_do_deed an_do_deed : Option Addr} {sl_do_deed : Array (Option Value)} {oc_do_deed kV_do_deed dc_do_deed pm_do_deed cd_do_deed ct_do_deed : Value}
    {f_places_of : Addr} {od_places_of an_places_of : Option Addr} {sl_places_of : Array (Option Value)} {oc_places_of kV_places_of dc_places_of pm_places_of cd_places_of ct_places_of : Value}
    {f_can_be_put : Addr} {od_can_be_put an_can_be_put : Option Addr} {sl_can_be_put : Array (Option Value)} {oc_can_be_put kV_can_be_put dc_can_be_put pm_can_be_put cd_can_be_put ct_can_be_put : Value}
    {f_is_there : Addr} {od_is_there an_is_there : Option Addr} {sl_is_there : Array (Option Value)} {oc_is_there kV_is_there dc_is_there pm_is_there cd_is_there ct_is_there : Value}
    {f_line_up : Addr} {od_line_up an_line_up : Option Addr} {sl_line_up : Array (Option Value)} {oc_line_up kV_line_up dc_line_up pm_line_up cd_line_up ct_line_up : Value}
    {f_Outline_init : Addr} {od_Outline_init an_Outline_init : Option Addr} {sl_Outline_init : Array (Option Value)} {oc_Outline_init kV_Outline_init dc_Outline_init pm_Outline_init cd_Outline_init ct_Outline_init : Value}
    {f_outline_of : Addr} {od_outline_of an_outline_of : Option Addr} {sl_outline_of : Array (Option Value)} {oc_outline_of kV_outline_of dc_outline_of pm_outline_of cd_outline_of ct_outline_of : Value}
    {f_refusal_about : Addr} {od_refusal_about an_refusal_about : Option Addr} {sl_refusal_about : Array (Option Value)} {oc_refusal_about kV_refusal_about dc_refusal_about pm_refusal_about cd_refusal_about ct_refusal_about : Value}
    {f_row_of : Addr} {od_row_of an_row_of : Option Addr} {sl_row_of : Array (Option Value)} {oc_row_of kV_row_of dc_row_of pm_row_of cd_row_of ct_row_of : Value}
    {f_is_by : Addr} {od_is_by an_is_by : Option Addr} {sl_is_by : Array (Option Value)} {oc_is_by kV_is_by dc_is_by pm_is_by cd_is_by ct_is_by : Value}
    {f_things_in_row : Addr} {od_things_in_row an_things_in_row : Option Addr} {sl_things_in_row : Array (Option Value)} {oc_things_in_row kV_things_in_row dc_things_in_row pm_things_in_row cd_things_in_row ct_things_in_row : Value}
    {f_within : Addr} {od_within an_within : Option Addr} {sl_within : Array (Option Value)} {oc_within kV_within dc_within pm_within cd_within ct_within : Value}
    {f_ask_tree : Addr} {od_ask_tree an_ask_tree : Option Addr} {sl_ask_tree : Array (Option Value)} {oc_ask_tree kV_ask_tree dc_ask_tree pm_ask_tree cd_ask_tree ct_ask_tree : Value}
    {f_ask_row : Addr} {od_ask_row an_ask_row : Option Addr} {sl_ask_row : Array (Option Value)} {oc_ask_row kV_ask_row dc_ask_row pm_ask_row cd_ask_row ct_ask_row : Value}
    {f_ask_line : Addr} {od_ask_line an_ask_line : Option Addr} {sl_ask_line : Array (Option Value)} {oc_ask_line kV_ask_line dc_ask_line pm_ask_line cd_ask_line ct_ask_line : Value}
    {f_ask_values : Addr} {od_ask_values an_ask_values : Option Addr} {sl_ask_values : Array (Option Value)} {oc_ask_values kV_ask_values dc_ask_values pm_ask_values cd_ask_values ct_ask_values : Value}
    {f_ask_amounts : Addr} {od_ask_amounts an_ask_amounts : Option Addr} {sl_ask_amounts : Array (Option Value)} {oc_ask_amounts kV_ask_amounts dc_ask_amounts pm_ask_amounts cd_ask_amounts ct_ask_amounts : Value}
    {f_ask_find : Addr} {od_ask_find an_ask_find : Option Addr} {sl_ask_find : Array (Option Value)} {oc_ask_find kV_ask_find dc_ask_find pm_ask_find cd_ask_find ct_ask_find : Value}
    {f_has_value : Addr} {od_has_value an_has_value : Option Addr} {sl_has_value : Array (Option Value)} {oc_has_value kV_has_value dc_has_value pm_has_value cd_has_value ct_has_value : Value}
    {f_ask_same : Addr} {od_ask_same an_ask_same : Option Addr} {sl_ask_same : Array (Option Value)} {oc_ask_same kV_ask_same dc_ask_same pm_ask_same cd_ask_same ct_ask_same : Value}
    {f_counted : Addr} {od_counted an_counted : Option Addr} {sl_counted : Array (Option Value)} {oc_counted kV_counted dc_counted pm_counted cd_counted ct_counted : Value}
    {f_counted_pairs : Addr} {od_counted_pairs an_counted_pairs : Option Addr} {sl_counted_pairs : Array (Option Value)} {oc_counted_pairs kV_counted_pairs dc_counted_pairs pm_counted_pairs cd_counted_pairs ct_counted_pairs : Value}
    {f_begin : Addr} {od_begin an_begin : Option Addr} {sl_begin : Array (Option Value)} {oc_begin kV_begin dc_begin pm_begin cd_begin ct_begin : Value}
    {f_make : Addr} {od_make an_make : Option Addr} {sl_make : Array (Option Value)} {oc_make kV_make dc_make pm_make cd_make ct_make : Value}
    {f_move : Addr} {od_move an_move : Option Addr} {sl_move : Array (Option Value)} {oc_move kV_move dc_move pm_move cd_move ct_move : Value}
    {f_can_move : Addr} {od_can_move an_can_move : Option Addr} {sl_can_move : Array (Option Value)} {oc_can_move kV_can_move dc_can_move pm_can_move cd_can_move ct_can_move : Value}
    {f_put_behind : Addr} {od_put_behind an_put_behind : Option Addr} {sl_put_behind : Array (Option Value)} {oc_put_behind kV_put_behind dc_put_behind pm_put_behind cd_put_behind ct_put_behind : Value}
    {f_tell : Addr} {od_tell an_tell : Option Addr} {sl_tell : Array (Option Value)} {oc_tell kV_tell dc_tell pm_tell cd_tell ct_tell : Value}
    {f_clear_field : Addr} {od_clear_field an_clear_field : Option Addr} {sl_clear_field : Array (Option Value)} {oc_clear_field kV_clear_field dc_clear_field pm_clear_field cd_clear_field ct_clear_field : Value}
    {f_add_amount : Addr} {od_add_amount an_add_amount : Option Addr} {sl_add_amount : Array (Option Value)} {oc_add_amount kV_add_amount dc_add_amount pm_add_amount cd_add_amount ct_add_amount : Value}
    {f_less_amount : Addr} {od_less_amount an_less_amount : Option Addr} {sl_less_amount : Array (Option Value)} {oc_less_amount kV_less_amount dc_less_amount pm_less_amount cd_less_amount ct_less_amount : Value}
    {f_do_to_thing : Addr} {od_do_to_thing an_do_to_thing : Option Addr} {sl_do_to_thing : Array (Option Value)} {oc_do_to_thing kV_do_to_thing dc_do_to_thing pm_do_to_thing cd_do_to_thing ct_do_to_thing : Value}
    {f_refusal_to_thing : Addr} {od_refusal_to_thing an_refusal_to_thing : Option Addr} {sl_refusal_to_thing : Array (Option Value)} {oc_refusal_to_thing kV_refusal_to_thing dc_refusal_to_thing pm_refusal_to_thing cd_refusal_to_thing ct_refusal_to_thing : Value}
    {f_forget : Addr} {od_forget an_forget : Option Addr} {sl_forget : Array (Option Value)} {oc_forget kV_forget dc_forget pm_forget cd_forget ct_forget : Value}
    {f_ask_kept : Addr} {od_ask_kept an_ask_kept : Option Addr} {sl_ask_kept : Array (Option Value)} {oc_ask_kept kV_ask_kept dc_ask_kept pm_ask_kept cd_ask_kept ct_ask_kept : Value}
    {f_kept_deeds : Addr} {od_kept_deeds an_kept_deeds : Option Addr} {sl_kept_deeds : Array (Option Value)} {oc_kept_deeds kV_kept_deeds dc_kept_deeds pm_kept_deeds cd_kept_deeds ct_kept_deeds : Value}
    {f_ripe_deeds : Addr} {od_ripe_deeds an_ripe_deeds : Option Addr} {sl_ripe_deeds : Array (Option Value)} {oc_ripe_deeds kV_ripe_deeds dc_ripe_deeds pm_ripe_deeds cd_ripe_deeds ct_ripe_deeds : Value}
    {f_settled_count : Addr} {od_settled_count an_settled_count : Option Addr} {sl_settled_count : Array (Option Value)} {oc_settled_count kV_settled_count dc_settled_count pm_settled_count cd_settled_count ct_settled_count : Value}
    {f_is_sure_of_all : Addr} {od_is_sure_of_all an_is_sure_of_all : Option Addr} {sl_is_sure_of_all : Array (Option Value)} {oc_is_sure_of_all kV_is_sure_of_all dc_is_sure_of_all pm_is_sure_of_all cd_is_sure_of_all ct_is_sure_of_all : Value}
    {f_send : Addr} {od_send an_send : Option Addr} {sl_send : Array (Option Value)} {oc_send kV_send dc_send pm_send cd_send ct_send : Value}
    {f_written : Addr} {od_written an_written : Option Addr} {sl_written : Array (Option Value)} {oc_written kV_written dc_written pm_written cd_written ct_written : Value}
    {f_unsure : Addr} {od_unsure an_unsure : Option Addr} {sl_unsure : Array (Option Value)} {oc_unsure kV_unsure dc_unsure pm_unsure cd_unsure ct_unsure : Value}
    {f_comes : Addr} {od_comes an_comes : Option Addr} {sl_comes : Array (Option Value)} {oc_comes kV_comes dc_comes pm_comes cd_comes ct_comes : Value}
    {f_hear : Addr} {od_hear an_hear : Option Addr} {sl_hear : Array (Option Value)} {oc_hear kV_hear dc_hear pm_hear cd_hear ct_hear : Value}
    {f_greater_of_each : Addr} {od_greater_of_each an_greater_of_each : Option Addr} {sl_greater_of_each : Array (Option Value)} {oc_greater_of_each kV_greater_of_each dc_greater_of_each pm_greater_of_each cd_greater_of_each ct_greater_of_each : Value}
    {f_back : Addr} {od_back an_back : Option Addr} {sl_back : Array (Option Value)} {oc_back kV_back dc_back pm_back cd_back ct_back : Value}
    {f_undo : Addr} {od_undo an_undo : Option Addr} {sl_undo : Array (Option Value)} {oc_undo kV_undo dc_undo pm_undo cd_undo ct_undo : Value}
    {f_redo : Addr} {od_redo an_redo : Option Addr} {sl_redo : Array (Option Value)} {oc_redo kV_redo dc_redo pm_redo cd_redo ct_redo : Value}
    {f_taken_last : Addr} {od_taken_last an_taken_last : Option Addr} {sl_taken_last : Array (Option Value)} {oc_taken_last kV_taken_last dc_taken_last pm_taken_last cd_taken_last ct_taken_last : Value}
    {f_is_own_change : Addr} {od_is_own_change an_is_own_change : Option Addr} {sl_is_own_change : Array (Option Value)} {oc_is_own_change kV_is_own_change dc_is_own_change pm_is_own_change cd_is_own_change ct_is_own_change : Value}
    {f_numbers_held : Addr} {od_numbers_held an_numbers_held : Option Addr} {sl_numbers_held : Array (Option Value)} {oc_numbers_held kV_numbers_held dc_numbers_held pm_numbers_held cd_numbers_held ct_numbers_held : Value}
    {f_is_too_late : Addr} {od_is_too_late an_is_too_late : Option Addr} {sl_is_too_late : Array (Option Value)} {oc_is_too_late kV_is_too_late dc_is_too_late pm_is_too_late cd_is_too_late ct_is_too_late : Value}
    {f_answers : Addr} {od_answers an_answers : Option Addr} {sl_answers : Array (Option Value)} {oc_answers kV_answers dc_answers pm_answers cd_answers ct_answers : Value}
    {f_answers_of : Addr} {od_answers_of an_answers_of : Option Addr} {sl_answers_of : Array (Option Value)} {oc_answers_of kV_answers_of dc_answers_of pm_answers_of cd_answers_of ct_answers_of : Value}
    {f_answer_of : Addr} {od_answer_of an_answer_of : Option Addr} {sl_answer_of : Array (Option Value)} {oc_answer_of kV_answer_of dc_answer_of pm_answer_of cd_answer_of ct_answer_of : Value}
    {f_answer_of_change : Addr} {od_answer_of_change an_answer_of_change : Option Addr} {sl_answer_of_change : Array (Option Value)} {oc_answer_of_change kV_answer_of_change dc_answer_of_change pm_answer_of_change cd_answer_of_change ct_answer_of_change : Value}
    {f_answer_of_taking : Addr} {od_answer_of_taking an_answer_of_taking : Option Addr} {sl_answer_of_taking : Array (Option Value)} {oc_answer_of_taking kV_answer_of_taking dc_answer_of_taking pm_answer_of_taking cd_answer_of_taking ct_answer_of_taking : Value}
    {f_answer_of_keeping : Addr} {od_answer_of_keeping an_answer_of_keeping : Option Addr} {sl_answer_of_keeping : Array (Option Value)} {oc_answer_of_keeping kV_answer_of_keeping dc_answer_of_keeping pm_answer_of_keeping cd_answer_of_keeping ct_answer_of_keeping : Value}
    {f_answer_of_question : Addr} {od_answer_of_question an_answer_of_question : Option Addr} {sl_answer_of_question : Array (Option Value)} {oc_answer_of_question kV_answer_of_question dc_answer_of_question pm_answer_of_question cd_answer_of_question ct_answer_of_question : Value}
    (X : K.In h) (G : h.Ns mainGlobals mg) (hfa : mg "answers" = some (.ref fa))
    (z_all : PySem.W.nsIn K mainGlobals "all" = some none)
    (z_any : PySem.W.nsIn K mainGlobals "any" = some none)
    (z_isinstance : PySem.W.nsIn K mainGlobals "isinstance" = some none)
    (z_len : PySem.W.nsIn K mainGlobals "len" = some none)
    (z_list : PySem.W.nsIn K mainGlobals "list" = some none)
    (z_max : PySem.W.nsIn K mainGlobals "max" = some none)
    (z_min : PySem.W.nsIn K mainGlobals "min" = some none)
    (z_range : PySem.W.nsIn K mainGlobals "range" = some none)
    (z_reversed : PySem.W.nsIn K mainGlobals "reversed" = some none)
    (z_sorted : PySem.W.nsIn K mainGlobals "sorted" = some none)
    (z_sum : PySem.W.nsIn K mainGlobals "sum" = some none)
    (g_LEFT : PySem.W.nsIn K mainGlobals "LEFT" = some (some (.int (0) tk_LEFT)))
    (g_RIGHT : PySem.W.nsIn K mainGlobals "RIGHT" = some (some (.int (1) tk_RIGHT)))
    (g_BEGINNING : PySem.W.nsIn K mainGlobals "BEGINNING" = some (some (.int (-1) tk_BEGINNING)))
    (g_REACH : PySem.W.nsIn K mainGlobals "REACH" = some (some (.int (20) tk_REACH)))
    (g_LAST_FIELD : PySem.W.nsIn K mainGlobals "LAST_FIELD" = some (some (.int (2) tk_LAST_FIELD)))
    (g_NOT_REFUSED : PySem.W.nsIn K mainGlobals "NOT_REFUSED" = some (some (.int (0) tk_NOT_REFUSED)))
    (g_WRONG : PySem.W.nsIn K mainGlobals "WRONG" = some (some (.int (-1) tk_WRONG)))
    (g_NO_DESK : PySem.W.nsIn K mainGlobals "NO_DESK" = some (some (.int (-2) tk_NO_DESK)))
    (g_NO_LETTER : PySem.W.nsIn K mainGlobals "NO_LETTER" = some (some (.int (-2) tk_NO_LETTER)))
    (g_NOT_THERE : PySem.W.nsIn K mainGlobals "NOT_THERE" = some (some (.int (-3) tk_NOT_THERE)))
    (g_TOO_LATE : PySem.W.nsIn K mainGlobals "TOO_LATE" = some (some (.int (-4) tk_TOO_LATE)))
    (g_FULL : PySem.W.nsIn K mainGlobals "FULL" = some (some (.int (-5) tk_FULL)))
    (g_WITHIN : PySem.W.nsIn K mainGlobals "WITHIN" = some (some (.int (-6) tk_WITHIN)))
    (g_MOST_DEEDS : PySem.W.nsIn K mainGlobals "MOST_DEEDS" = some (some (.int (100) tk_MOST_DEEDS)))
    (g_FIRST_MADE : PySem.W.nsIn K mainGlobals "FIRST_MADE" = some (some (.int (2) tk_FIRST_MADE)))
    (g_ROOT : PySem.W.nsIn K mainGlobals "ROOT" = some (some (.int (0) tk_ROOT)))
    (g_BIN : PySem.W.nsIn K mainGlobals "BIN" = some (some (.int (1) tk_BIN)))
    (g_MOST_DESKS : PySem.W.nsIn K mainGlobals "MOST_DESKS" = some (some (.int (6) tk_MOST_DESKS)))
    (g_GREATEST_TOLD : PySem.W.nsIn K mainGlobals "GREATEST_TOLD" = some (some (.int (1000000000) tk_GREATEST_TOLD)))
    (g_MOST_LETTERS : PySem.W.nsIn K mainGlobals "MOST_LETTERS" = some (some (.int (200) tk_MOST_LETTERS)))
    (g_BEGIN : PySem.W.nsIn K mainGlobals "BEGIN" = some (some (.int (1) tk_BEGIN)))
    (g_MAKE : PySem.W.nsIn K mainGlobals "MAKE" = some (some (.int (2) tk_MAKE)))
    (g_MOVE : PySem.W.nsIn K mainGlobals "MOVE" = some (some (.int (3) tk_MOVE)))
    (g_TELL : PySem.W.nsIn K mainGlobals "TELL" = some (some (.int (4) tk_TELL)))
    (g_CLEAR : PySem.W.nsIn K mainGlobals "CLEAR" = some (some (.int (5) tk_CLEAR)))
    (g_ADD : PySem.W.nsIn K mainGlobals "ADD" = some (some (.int (6) tk_ADD)))
    (g_LESS : PySem.W.nsIn K mainGlobals "LESS" = some (some (.int (7) tk_LESS)))
    (g_BACK : PySem.W.nsIn K mainGlobals "BACK" = some (some (.int (8) tk_BACK)))
    (g_UNDO : PySem.W.nsIn K mainGlobals "UNDO" = some (some (.int (9) tk_UNDO)))
    (g_REDO : PySem.W.nsIn K mainGlobals "REDO" = some (some (.int (10) tk_REDO)))
    (g_SEND : PySem.W.nsIn K mainGlobals "SEND" = some (some (.int (11) tk_SEND)))
    (g_COMES : PySem.W.nsIn K mainGlobals "COMES" = some (some (.int (12) tk_COMES)))
    (g_FORGET : PySem.W.nsIn K mainGlobals "FORGET" = some (some (.int (13) tk_FORGET)))
    (g_TREE : PySem.W.nsIn K mainGlobals "TREE" = some (some (.int (14) tk_TREE)))
    (g_ROW : PySem.W.nsIn K mainGlobals "ROW" = some (some (.int (15) tk_ROW)))
    (g_LINE : PySem.W.nsIn K mainGlobals "LINE" = some (some (.int (16) tk_LINE)))
    (g_VALUES : PySem.W.nsIn K mainGlobals "VALUES" = some (some (.int (17) tk_VALUES)))
    (g_AMOUNTS : PySem.W.nsIn K mainGlobals "AMOUNTS" = some (some (.int (18) tk_AMOUNTS)))
    (g_FIND : PySem.W.nsIn K mainGlobals "FIND" = some (some (.int (19) tk_FIND)))
    (g_KEPT : PySem.W.nsIn K mainGlobals "KEPT" = some (some (.int (20) tk_KEPT)))
    (c_SIZES : PySem.W.nsIn K mainGlobals "SIZES" = some (some (.ref S_SIZES)))
    (t_SIZES : K.lookup S_SIZES = some { cls := .type "dict", data := .dict #[{ hash := 1, key := .int 1 st_SIZES_0, val := .int 1 su_SIZES_0 }, { hash := 2, key := .int 2 st_SIZES_1, val := .int 3 su_SIZES_1 }, { hash := 3, key := .int 3 st_SIZES_2, val := .int 4 su_SIZES_2 }, { hash := 4, key := .int 4 st_SIZES_3, val := .int 4 su_SIZES_3 }, { hash := 5, key := .int 5 st_SIZES_4, val := .int 3 su_SIZES_4 }, { hash := 6, key := .int 6 st_SIZES_5, val := .int 3 su_SIZES_5 }, { hash := 7, key := .int 7 st_SIZES_6, val := .int 3 su_SIZES_6 }, { hash := 8, key := .int 8 st_SIZES_7, val := .int 2 su_SIZES_7 }, { hash := 9, key := .int 9 st_SIZES_8, val := .int 1 su_SIZES_8 }, { hash := 10, key := .int 10 st_SIZES_9, val := .int 1 su_SIZES_9 }, { hash := 11, key := .int 11 st_SIZES_10, val := .int 2 su_SIZES_10 }, { hash := 12, key := .int 12 st_SIZES_11, val := .int 1 su_SIZES_11 }, { hash := 13, key := .int 13 st_SIZES_12, val := .int 1 su_SIZES_12 }, { hash := 14, key := .int 14 st_SIZES_13, val := .int 2 su_SIZES_13 }, { hash := 15, key := .int 15 st_SIZES_14, val := .int 2 su_SIZES_14 }, { hash := 16, key := .int 16 st_SIZES_15, val := .int 2 su_SIZES_15 }, { hash := 17, key := .int 17 st_SIZES_16, val := .int 3 su_SIZES_16 }, { hash := 18, key := .int 18 st_SIZES_17, val := .int 2 su_SIZES_17 }, { hash := 19, key := .int 19 st_SIZES_18, val := .int 3 su_SIZES_18 }, { hash := 20, key := .int 20 st_SIZES_19, val := .int 1 su_SIZES_19 }, { hash := 21, key := .int 21 st_SIZES_20, val := .int 2 su_SIZES_20 }] sn_SIZES })
    (c_Put : PySem.W.nsIn K mainGlobals "Put" = some (some (.ref C_Put)))
    (pg_Put : PySem.W.plainGet K C_Put Str.empty = true)
    (hd_Put : PySem.W.hasDictIn K C_Put = true)
    (po_Put : PySem.W.plainOver K C_Put = true)
    (sa_Put : PySem.W.findIn K (.ref C_Put) "__setattr__" = some (some (.builtin "object.__setattr__")))
    (mk_Put : PySem.W.makesIn K C_Put = true)
    (kc_Put : PySem.W.keepIn K (.ref C_Put) = true)
    (na_Put_thing : PySem.W.findIn K (.ref C_Put) "thing" = some none)
    (na_Put_under : PySem.W.findIn K (.ref C_Put) "under" = some none)
    (na_Put_at : PySem.W.findIn K (.ref C_Put) "at" = some none)
    (na_Put_side : PySem.W.findIn K (.ref C_Put) "side" = some none)
    (c_Telling : PySem.W.nsIn K mainGlobals "Telling" = some (some (.ref C_Telling)))
    (pg_Telling : PySem.W.plainGet K C_Telling Str.empty = true)
    (hd_Telling : PySem.W.hasDictIn K C_Telling = true)
    (po_Telling : PySem.W.plainOver K C_Telling = true)
    (sa_Telling : PySem.W.findIn K (.ref C_Telling) "__setattr__" = some (some (.builtin "object.__setattr__")))
    (mk_Telling : PySem.W.makesIn K C_Telling = true)
    (kc_Telling : PySem.W.keepIn K (.ref C_Telling) = true)
    (na_Telling_thing : PySem.W.findIn K (.ref C_Telling) "thing" = some none)
    (na_Telling_field : PySem.W.findIn K (.ref C_Telling) "field" = some none)
    (na_Telling_value : PySem.W.findIn K (.ref C_Telling) "value" = some none)
    (c_Clearing : PySem.W.nsIn K mainGlobals "Clearing" = some (some (.ref C_Clearing)))
    (pg_Clearing : PySem.W.plainGet K C_Clearing Str.empty = true)
    (hd_Clearing : PySem.W.hasDictIn K C_Clearing = true)
    (po_Clearing : PySem.W.plainOver K C_Clearing = true)
    (sa_Clearing : PySem.W.findIn K (.ref C_Clearing) "__setattr__" = some (some (.builtin "object.__setattr__")))
    (mk_Clearing : PySem.W.makesIn K C_Clearing = true)
    (kc_Clearing : PySem.W.keepIn K (.ref C_Clearing) = true)
    (na_Clearing_thing : PySem.W.findIn K (.ref C_Clearing) "thing" = some none)
    (na_Clearing_field : PySem.W.findIn K (.ref C_Clearing) "field" = some none)
    (c_Adding : PySem.W.nsIn K mainGlobals "Adding" = some (some (.ref C_Adding)))
    (pg_Adding : PySem.W.plainGet K C_Adding Str.empty = true)
    (hd_Adding : PySem.W.hasDictIn K C_Adding = true)
    (po_Adding : PySem.W.plainOver K C_Adding = true)
    (sa_Adding : PySem.W.findIn K (.ref C_Adding) "__setattr__" = some (some (.builtin "object.__setattr__")))
    (mk_Adding : PySem.W.makesIn K C_Adding = true)
    (kc_Adding : PySem.W.keepIn K (.ref C_Adding) = true)
    (na_Adding_thing : PySem.W.findIn K (.ref C_Adding) "thing" = some none)
    (na_Adding_amount : PySem.W.findIn K (.ref C_Adding) "amount" = some none)
    (c_TakingBack : PySem.W.nsIn K mainGlobals "TakingBack" = some (some (.ref C_TakingBack)))
    (pg_TakingBack : PySem.W.plainGet K C_TakingBack Str.empty = true)
    (hd_TakingBack : PySem.W.hasDictIn K C_TakingBack = true)
    (po_TakingBack : PySem.W.plainOver K C_TakingBack = true)
    (sa_TakingBack : PySem.W.findIn K (.ref C_TakingBack) "__setattr__" = some (some (.builtin "object.__setattr__")))
    (mk_TakingBack : PySem.W.makesIn K C_TakingBack = true)
    (kc_TakingBack : PySem.W.keepIn K (.ref C_TakingBack) = true)
    (na_TakingBack_deed : PySem.W.findIn K (.ref C_TakingBack) "deed" = some none)
    (c_DoingAgain : PySem.W.nsIn K mainGlobals "DoingAgain" = some (some (.ref C_DoingAgain)))
    (pg_DoingAgain : PySem.W.plainGet K C_DoingAgain Str.empty = true)
    (hd_DoingAgain : PySem.W.hasDictIn K C_DoingAgain = true)
    (po_DoingAgain : PySem.W.plainOver K C_DoingAgain = true)
    (sa_DoingAgain : PySem.W.findIn K (.ref C_DoingAgain) "__setattr__" = some (some (.builtin "object.__setattr__")))
    (mk_DoingAgain : PySem.W.makesIn K C_DoingAgain = true)
    (kc_DoingAgain : PySem.W.keepIn K (.ref C_DoingAgain) = true)
    (na_DoingAgain_deed : PySem.W.findIn K (.ref C_DoingAgain) "deed" = some none)
    (c_Deed : PySem.W.nsIn K mainGlobals "Deed" = some (some (.ref C_Deed)))
    (pg_Deed : PySem.W.plainGet K C_Deed Str.empty = true)
    (hd_Deed : PySem.W.hasDictIn K C_Deed = true)
    (po_Deed : PySem.W.plainOver K C_Deed = true)
    (sa_Deed : PySem.W.findIn K (.ref C_Deed) "__setattr__" = some (some (.builtin "object.__setattr__")))
    (mk_Deed : PySem.W.makesIn K C_Deed = true)
    (kc_Deed : PySem.W.keepIn K (.ref C_Deed) = true)
    (na_Deed_number : PySem.W.findIn K (.ref C_Deed) "number" = some none)
    (na_Deed_desk : PySem.W.findIn K (.ref C_Deed) "desk" = some none)
    (na_Deed_rank : PySem.W.findIn K (.ref C_Deed) "rank" = some none)
    (na_Deed_count : PySem.W.findIn K (.ref C_Deed) "count" = some none)
    (na_Deed_saw : PySem.W.findIn K (.ref C_Deed) "saw" = some none)
    (na_Deed_act : PySem.W.findIn K (.ref C_Deed) "act" = some none)
    (c_Desk : PySem.W.nsIn K mainGlobals "Desk" = some (some (.ref C_Desk)))
    (pg_Desk : PySem.W.plainGet K C_Desk Str.empty = true)
    (hd_Desk : PySem.W.hasDictIn K C_Desk = true)
    (po_Desk : PySem.W.plainOver K C_Desk = true)
    (sa_Desk : PySem.W.findIn K (.ref C_Desk) "__setattr__" = some (some (.builtin "object.__setattr__")))
    (mk_Desk : PySem.W.makesIn K C_Desk = true)
    (kc_Desk : PySem.W.keepIn K (.ref C_Desk) = true)
    (na_Desk_greatest : PySem.W.findIn K (.ref C_Desk) "greatest" = some none)
    (na_Desk_counts : PySem.W.findIn K (.ref C_Desk) "counts" = some none)
    (na_Desk_sure : PySem.W.findIn K (.ref C_Desk) "sure" = some none)
    (na_Desk_heard : PySem.W.findIn K (.ref C_Desk) "heard" = some none)
    (na_Desk_forgotten : PySem.W.findIn K (.ref C_Desk) "forgotten" = some none)
    (c_Letter : PySem.W.nsIn K mainGlobals "Letter" = some (some (.ref C_Letter)))
    (pg_Letter : PySem.W.plainGet K C_Letter Str.empty = true)
    (hd_Letter : PySem.W.hasDictIn K C_Letter = true)
    (po_Letter : PySem.W.plainOver K C_Letter = true)
    (sa_Letter : PySem.W.findIn K (.ref C_Letter) "__setattr__" = some (some (.builtin "object.__setattr__")))
    (mk_Letter : PySem.W.makesIn K C_Letter = true)
    (kc_Letter : PySem.W.keepIn K (.ref C_Letter) = true)
    (na_Letter_source : PySem.W.findIn K (.ref C_Letter) "source" = some none)
    (na_Letter_target : PySem.W.findIn K (.ref C_Letter) "target" = some none)
    (na_Letter_counts : PySem.W.findIn K (.ref C_Letter) "counts" = some none)
    (na_Letter_greatest : PySem.W.findIn K (.ref C_Letter) "greatest" = some none)
    (na_Letter_deeds : PySem.W.findIn K (.ref C_Letter) "deeds" = some none)
    (c_House : PySem.W.nsIn K mainGlobals "House" = some (some (.ref C_House)))
    (pg_House : PySem.W.plainGet K C_House Str.empty = true)
    (hd_House : PySem.W.hasDictIn K C_House = true)
    (po_House : PySem.W.plainOver K C_House = true)
    (sa_House : PySem.W.findIn K (.ref C_House) "__setattr__" = some (some (.builtin "object.__setattr__")))
    (mk_House : PySem.W.makesIn K C_House = true)
    (kc_House : PySem.W.keepIn K (.ref C_House) = true)
    (na_House_desks : PySem.W.findIn K (.ref C_House) "desks" = some none)
    (na_House_deeds : PySem.W.findIn K (.ref C_House) "deeds" = some none)
    (na_House_letters : PySem.W.findIn K (.ref C_House) "letters" = some none)
    (na_House_next_thing : PySem.W.findIn K (.ref C_House) "next_thing" = some none)
    (c_Outline : PySem.W.nsIn K mainGlobals "Outline" = some (some (.ref C_Outline)))
    (pg_Outline : PySem.W.plainGet K C_Outline Str.empty = true)
    (hd_Outline : PySem.W.hasDictIn K C_Outline = true)
    (po_Outline : PySem.W.plainOver K C_Outline = true)
    (sa_Outline : PySem.W.findIn K (.ref C_Outline) "__setattr__" = some (some (.builtin "object.__setattr__")))
    (mk_Outline : PySem.W.makesIn K C_Outline = true)
    (kc_Outline : PySem.W.keepIn K (.ref C_Outline) = true)
    (na_Outline_deeds : PySem.W.findIn K (.ref C_Outline) "deeds" = some none)
    (na_Outline_held : PySem.W.findIn K (.ref C_Outline) "held" = some none)
    (na_Outline_places : PySem.W.findIn K (.ref C_Outline) "places" = some none)
    (a_Put_init : PySem.W.findIn K (.ref C_Put) "__init__" = some (some (.ref f_Put_init)))
    (i_Put_init : PySem.W.isFn K (.ref f_Put_init) = true)
    (l_Put_init : K.lookup f_Put_init = some ⟨oc_Put_init, od_Put_init, .func (PySem.W.fnOf "__init__" "Put.__init__" (defArgs s_Put_init) (defBody s_Put_init) (defScope s_Put_init) .none kV_Put_init dc_Put_init pm_Put_init an_Put_init cd_Put_init ct_Put_init), sl_Put_init⟩)
    (e_Put_init : PySem.W.codeIn K cd_Put_init "Put.__init__" = true)
    (k_Put_init : PySem.W.keepIn K (.ref f_Put_init) = true)
    (a_Telling_init : PySem.W.findIn K (.ref C_Telling) "__init__" = some (some (.ref f_Telling_init)))
    (i_Telling_init : PySem.W.isFn K (.ref f_Telling_init) = true)
    (l_Telling_init : K.lookup f_Telling_init = some ⟨oc_Telling_init, od_Telling_init, .func (PySem.W.fnOf "__init__" "Telling.__init__" (defArgs s_Telling_init) (defBody s_Telling_init) (defScope s_Telling_init) .none kV_Telling_init dc_Telling_init pm_Telling_init an_Telling_init cd_Telling_init ct_Telling_init), sl_Telling_init⟩)
    (e_Telling_init : PySem.W.codeIn K cd_Telling_init "Telling.__init__" = true)
    (k_Telling_init : PySem.W.keepIn K (.ref f_Telling_init) = true)
    (a_Clearing_init : PySem.W.findIn K (.ref C_Clearing) "__init__" = some (some (.ref f_Clearing_init)))
    (i_Clearing_init : PySem.W.isFn K (.ref f_Clearing_init) = true)
    (l_Clearing_init : K.lookup f_Clearing_init = some ⟨oc_Clearing_init, od_Clearing_init, .func (PySem.W.fnOf "__init__" "Clearing.__init__" (defArgs s_Clearing_init) (defBody s_Clearing_init) (defScope s_Clearing_init) .none kV_Clearing_init dc_Clearing_init pm_Clearing_init an_Clearing_init cd_Clearing_init ct_Clearing_init), sl_Clearing_init⟩)
    (e_Clearing_init : PySem.W.codeIn K cd_Clearing_init "Clearing.__init__" = true)
    (k_Clearing_init : PySem.W.keepIn K (.ref f_Clearing_init) = true)
    (a_Adding_init : PySem.W.findIn K (.ref C_Adding) "__init__" = some (some (.ref f_Adding_init)))
    (i_Adding_init : PySem.W.isFn K (.ref f_Adding_init) = true)
    (l_Adding_init : K.lookup f_Adding_init = some ⟨oc_Adding_init, od_Adding_init, .func (PySem.W.fnOf "__init__" "Adding.__init__" (defArgs s_Adding_init) (defBody s_Adding_init) (defScope s_Adding_init) .none kV_Adding_init dc_Adding_init pm_Adding_init an_Adding_init cd_Adding_init ct_Adding_init), sl_Adding_init⟩)
    (e_Adding_init : PySem.W.codeIn K cd_Adding_init "Adding.__init__" = true)
    (k_Adding_init : PySem.W.keepIn K (.ref f_Adding_init) = true)
    (a_TakingBack_init : PySem.W.findIn K (.ref C_TakingBack) "__init__" = some (some (.ref f_TakingBack_init)))
    (i_TakingBack_init : PySem.W.isFn K (.ref f_TakingBack_init) = true)
    (l_TakingBack_init : K.lookup f_TakingBack_init = some ⟨oc_TakingBack_init, od_TakingBack_init, .func (PySem.W.fnOf "__init__" "TakingBack.__init__" (defArgs s_TakingBack_init) (defBody s_TakingBack_init) (defScope s_TakingBack_init) .none kV_TakingBack_init dc_TakingBack_init pm_TakingBack_init an_TakingBack_init cd_TakingBack_init ct_TakingBack_init), sl_TakingBack_init⟩)
    (e_TakingBack_init : PySem.W.codeIn K cd_TakingBack_init "TakingBack.__init__" = true)
    (k_TakingBack_init : PySem.W.keepIn K (.ref f_TakingBack_init) = true)
    (a_DoingAgain_init : PySem.W.findIn K (.ref C_DoingAgain) "__init__" = some (some (.ref f_DoingAgain_init)))
    (i_DoingAgain_init : PySem.W.isFn K (.ref f_DoingAgain_init) = true)
    (l_DoingAgain_init : K.lookup f_DoingAgain_init = some ⟨oc_DoingAgain_init, od_DoingAgain_init, .func (PySem.W.fnOf "__init__" "DoingAgain.__init__" (defArgs s_DoingAgain_init) (defBody s_DoingAgain_init) (defScope s_DoingAgain_init) .none kV_DoingAgain_init dc_DoingAgain_init pm_DoingAgain_init an_DoingAgain_init cd_DoingAgain_init ct_DoingAgain_init), sl_DoingAgain_init⟩)
    (e_DoingAgain_init : PySem.W.codeIn K cd_DoingAgain_init "DoingAgain.__init__" = true)
    (k_DoingAgain_init : PySem.W.keepIn K (.ref f_DoingAgain_init) = true)
    (a_Deed_init : PySem.W.findIn K (.ref C_Deed) "__init__" = some (some (.ref f_Deed_init)))
    (i_Deed_init : PySem.W.isFn K (.ref f_Deed_init) = true)
    (l_Deed_init : K.lookup f_Deed_init = some ⟨oc_Deed_init, od_Deed_init, .func (PySem.W.fnOf "__init__" "Deed.__init__" (defArgs s_Deed_init) (defBody s_Deed_init) (defScope s_Deed_init) .none kV_Deed_init dc_Deed_init pm_Deed_init an_Deed_init cd_Deed_init ct_Deed_init), sl_Deed_init⟩)
    (e_Deed_init : PySem.W.codeIn K cd_Deed_init "Deed.__init__" = true)
    (k_Deed_init : PySem.W.keepIn K (.ref f_Deed_init) = true)
    (a_stamp : PySem.W.nsIn K mainGlobals "stamp" = some (some (.ref f_stamp)))
    (l_stamp : K.lookup f_stamp = some ⟨oc_stamp, od_stamp, .func (PySem.W.fnOf "stamp" "stamp" (defArgs s_stamp) (defBody s_stamp) (defScope s_stamp) .none kV_stamp dc_stamp pm_stamp an_stamp cd_stamp ct_stamp), sl_stamp⟩)
    (e_stamp : PySem.W.codeIn K cd_stamp "stamp" = true)
    (k_stamp : PySem.W.keepIn K (.ref f_stamp) = true)
    (a_is_change : PySem.W.nsIn K mainGlobals "is_change" = some (some (.ref f_is_change)))
    (l_is_change : K.lookup f_is_change = some ⟨oc_is_change, od_is_change, .func (PySem.W.fnOf "is_change" "is_change" (defArgs s_is_change) (defBody s_is_change) (defScope s_is_change) .none kV_is_change dc_is_change pm_is_change an_is_change cd_is_change ct_is_change), sl_is_change⟩)
    (e_is_change : PySem.W.codeIn K cd_is_change "is_change" = true)
    (k_is_change : PySem.W.keepIn K (.ref f_is_change) = true)
    (a_is_in_reach : PySem.W.nsIn K mainGlobals "is_in_reach" = some (some (.ref f_is_in_reach)))
    (l_is_in_reach : K.lookup f_is_in_reach = some ⟨oc_is_in_reach, od_is_in_reach, .func (PySem.W.fnOf "is_in_reach" "is_in_reach" (defArgs s_is_in_reach) (defBody s_is_in_reach) (defScope s_is_in_reach) .none kV_is_in_reach dc_is_in_reach pm_is_in_reach an_is_in_reach cd_is_in_reach ct_is_in_reach), sl_is_in_reach⟩)
    (e_is_in_reach : PySem.W.codeIn K cd_is_in_reach "is_in_reach" = true)
    (k_is_in_reach : PySem.W.keepIn K (.ref f_is_in_reach) = true)
    (a_has_seen : PySem.W.nsIn K mainGlobals "has_seen" = some (some (.ref f_has_seen)))
    (l_has_seen : K.lookup f_has_seen = some ⟨oc_has_seen, od_has_seen, .func (PySem.W.fnOf "has_seen" "has_seen" (defArgs s_has_seen) (defBody s_has_seen) (defScope s_has_seen) .none kV_has_seen dc_has_seen pm_has_seen an_has_seen cd_has_seen ct_has_seen), sl_has_seen⟩)
    (e_has_seen : PySem.W.codeIn K cd_has_seen "has_seen" = true)
    (k_has_seen : PySem.W.keepIn K (.ref f_has_seen) = true)
    (a_tellings_of : PySem.W.nsIn K mainGlobals "tellings_of" = some (some (.ref f_tellings_of)))
    (l_tellings_of : K.lookup f_tellings_of = some ⟨oc_tellings_of, od_tellings_of, .func (PySem.W.fnOf "tellings_of" "tellings_of" (defArgs s_tellings_of) (defBody s_tellings_of) (defScope s_tellings_of) .none kV_tellings_of dc_tellings_of pm_tellings_of an_tellings_of cd_tellings_of ct_tellings_of), sl_tellings_of⟩)
    (e_tellings_of : PySem.W.codeIn K cd_tellings_of "tellings_of" = true)
    (k_tellings_of : PySem.W.keepIn K (.ref f_tellings_of) = true)
    (a_is_about : PySem.W.nsIn K mainGlobals "is_about" = some (some (.ref f_is_about)))
    (l_is_about : K.lookup f_is_about = some ⟨oc_is_about, od_is_about, .func (PySem.W.fnOf "is_about" "is_about" (defArgs s_is_about) (defBody s_is_about) (defScope s_is_about) .none kV_is_about dc_is_about pm_is_about an_is_about cd_is_about ct_is_about), sl_is_about⟩)
    (e_is_about : PySem.W.codeIn K cd_is_about "is_about" = true)
    (k_is_about : PySem.W.keepIn K (.ref f_is_about) = true)
    (a_is_seen : PySem.W.nsIn K mainGlobals "is_seen" = some (some (.ref f_is_seen)))
    (l_is_seen : K.lookup f_is_seen = some ⟨oc_is_seen, od_is_seen, .func (PySem.W.fnOf "is_seen" "is_seen" (defArgs s_is_seen) (defBody s_is_seen) (defScope s_is_seen) .none kV_is_seen dc_is_seen pm_is_seen an_is_seen cd_is_seen ct_is_seen), sl_is_seen⟩)
    (e_is_seen : PySem.W.codeIn K cd_is_seen "is_seen" = true)
    (k_is_seen : PySem.W.keepIn K (.ref f_is_seen) = true)
    (a_amount_of : PySem.W.nsIn K mainGlobals "amount_of" = some (some (.ref f_amount_of)))
    (l_amount_of : K.lookup f_amount_of = some ⟨oc_amount_of, od_amount_of, .func (PySem.W.fnOf "amount_of" "amount_of" (defArgs s_amount_of) (defBody s_amount_of) (defScope s_amount_of) .none kV_amount_of dc_amount_of pm_amount_of an_amount_of cd_amount_of ct_amount_of), sl_amount_of⟩)
    (e_amount_of : PySem.W.codeIn K cd_amount_of "amount_of" = true)
    (k_amount_of : PySem.W.keepIn K (.ref f_amount_of) = true)
    (a_holding : PySem.W.nsIn K mainGlobals "holding" = some (some (.ref f_holding)))
    (l_holding : K.lookup f_holding = some ⟨oc_holding, od_holding, .func (PySem.W.fnOf "holding" "holding" (defArgs s_holding) (defBody s_holding) (defScope s_holding) .none kV_holding dc_holding pm_holding an_holding cd_holding ct_holding), sl_holding⟩)
    (e_holding : PySem.W.codeIn K cd_holding "holding" = true)
    (k_holding : PySem.W.keepIn K (.ref f_holding) = true)
    (a_puts_under : PySem.W.nsIn K mainGlobals "puts_under" = some (some (.ref f_puts_under)))
    (l_puts_under : K.lookup f_puts_under = some ⟨oc_puts_under, od_puts_under, .func (PySem.W.fnOf "puts_under" "puts_under" (defArgs s_puts_under) (defBody s_puts_under) (defScope s_puts_under) .none kV_puts_under dc_puts_under pm_puts_under an_puts_under cd_puts_under ct_puts_under), sl_puts_under⟩)
    (e_puts_under : PySem.W.codeIn K cd_puts_under "puts_under" = true)
    (k_puts_under : PySem.W.keepIn K (.ref f_puts_under) = true)
    (a_spots_under : PySem.W.nsIn K mainGlobals "spots_under" = some (some (.ref f_spots_under)))
    (l_spots_under : K.lookup f_spots_under = some ⟨oc_spots_under, od_spots_under, .func (PySem.W.fnOf "spots_under" "spots_under" (defArgs s_spots_under) (defBody s_spots_under) (defScope s_spots_under) .none kV_spots_under dc_spots_under pm_spots_under an_spots_under cd_spots_under ct_spots_under), sl_spots_under⟩)
    (e_spots_under : PySem.W.codeIn K cd_spots_under "spots_under" = true)
    (k_spots_under : PySem.W.keepIn K (.ref f_spots_under) = true)
    (a_right_behind : PySem.W.nsIn K mainGlobals "right_behind" = some (some (.ref f_right_behind)))
    (l_right_behind : K.lookup f_right_behind = some ⟨oc_right_behind, od_right_behind, .func (PySem.W.fnOf "right_behind" "right_behind" (defArgs s_right_behind) (defBody s_right_behind) (defScope s_right_behind) .none kV_right_behind dc_right_behind pm_right_behind an_right_behind cd_right_behind ct_right_behind), sl_right_behind⟩)
    (e_right_behind : PySem.W.codeIn K cd_right_behind "right_behind" = true)
    (k_right_behind : PySem.W.keepIn K (.ref f_right_behind) = true)
    (a_has_right : PySem.W.nsIn K mainGlobals "has_right" = some (some (.ref f_has_right)))
    (l_has_right : K.lookup f_has_right = some ⟨oc_has_right, od_has_right, .func (PySem.W.fnOf "has_right" "has_right" (defArgs s_has_right) (defBody s_has_right) (defScope s_has_right) .none kV_has_right dc_has_right pm_has_right an_has_right cd_has_right ct_has_right), sl_has_right⟩)
    (e_has_right : PySem.W.codeIn K cd_has_right "has_right" = true)
    (k_has_right : PySem.W.keepIn K (.ref f_has_right) = true)
    (a_Desk_init : PySem.W.findIn K (.ref C_Desk) "__init__" = some (some (.ref f_Desk_init)))
    (i_Desk_init : PySem.W.isFn K (.ref f_Desk_init) = true)
    (l_Desk_init : K.lookup f_Desk_init = some ⟨oc_Desk_init, od_Desk_init, .func (PySem.W.fnOf "__init__" "Desk.__init__" (defArgs s_Desk_init) (defBody s_Desk_init) (defScope s_Desk_init) .none kV_Desk_init dc_Desk_init pm_Desk_init an_Desk_init cd_Desk_init ct_Desk_init), sl_Desk_init⟩)
    (e_Desk_init : PySem.W.codeIn K cd_Desk_init "Desk.__init__" = true)
    (k_Desk_init : PySem.W.keepIn K (.ref f_Desk_init) = true)
    (a_Letter_init : PySem.W.findIn K (.ref C_Letter) "__init__" = some (some (.ref f_Letter_init)))
    (i_Letter_init : PySem.W.isFn K (.ref f_Letter_init) = true)
    (l_Letter_init : K.lookup f_Letter_init = some ⟨oc_Letter_init, od_Letter_init, .func (PySem.W.fnOf "__init__" "Letter.__init__" (defArgs s_Letter_init) (defBody s_Letter_init) (defScope s_Letter_init) .none kV_Letter_init dc_Letter_init pm_Letter_init an_Letter_init cd_Letter_init ct_Letter_init), sl_Letter_init⟩)
    (e_Letter_init : PySem.W.codeIn K cd_Letter_init "Letter.__init__" = true)
    (k_Letter_init : PySem.W.keepIn K (.ref f_Letter_init) = true)
    (a_House_init : PySem.W.findIn K (.ref C_House) "__init__" = some (some (.ref f_House_init)))
    (i_House_init : PySem.W.isFn K (.ref f_House_init) = true)
    (l_House_init : K.lookup f_House_init = some ⟨oc_House_init, od_House_init, .func (PySem.W.fnOf "__init__" "House.__init__" (defArgs s_House_init) (defBody s_House_init) (defScope s_House_init) .none kV_House_init dc_House_init pm_House_init an_House_init cd_House_init ct_House_init), sl_House_init⟩)
    (e_House_init : PySem.W.codeIn K cd_House_init "House.__init__" = true)
    (k_House_init : PySem.W.keepIn K (.ref f_House_init) = true)
    (a_House_start : PySem.W.findIn K (.ref C_House) "start" = some (some (.ref f_House_start)))
    (i_House_start : PySem.W.isFn K (.ref f_House_start) = true)
    (l_House_start : K.lookup f_House_start = some ⟨oc_House_start, od_House_start, .func (PySem.W.fnOf "start" "House.start" (defArgs s_House_start) (defBody s_House_start) (defScope s_House_start) .none kV_House_start dc_House_start pm_House_start an_House_start cd_House_start ct_House_start), sl_House_start⟩)
    (e_House_start : PySem.W.codeIn K cd_House_start "House.start" = true)
    (k_House_start : PySem.W.keepIn K (.ref f_House_start) = true)
    (a_has_desk : PySem.W.nsIn K mainGlobals "has_desk" = some (some (.ref f_has_desk)))
    (l_has_desk : K.lookup f_has_desk = some ⟨oc_has_desk, od_has_desk, .func (PySem.W.fnOf "has_desk" "has_desk" (defArgs s_has_desk) (defBody s_has_desk) (defScope s_has_desk) .none kV_has_desk dc_has_desk pm_has_desk an_has_desk cd_has_desk ct_has_desk), sl_has_desk⟩)
    (e_has_desk : PySem.W.codeIn K cd_has_desk "has_desk" = true)
    (k_has_desk : PySem.W.keepIn K (.ref f_has_desk) = true)
    (a_is_full : PySem.W.nsIn K mainGlobals "is_full" = some (some (.ref f_is_full)))
    (l_is_full : K.lookup f_is_full = some ⟨oc_is_full, od_is_full, .func (PySem.W.fnOf "is_full" "is_full" (defArgs s_is_full) (defBody s_is_full) (defScope s_is_full) .none kV_is_full dc_is_full pm_is_full an_is_full cd_is_full ct_is_full), sl_is_full⟩)
    (e_is_full : PySem.W.codeIn K cd_is_full "is_full" = true)
    (k_is_full : PySem.W.keepIn K (.ref f_is_full) = true)
    (a_had : PySem.W.nsIn K mainGlobals "had" = some (some (.ref f_had)))
    (l_had : K.lookup f_had = some ⟨oc_had, od_had, .func (PySem.W.fnOf "had" "had" (defArgs s_had) (defBody s_had) (defScope s_had) .none kV_had dc_had pm_had an_had cd_had ct_had), sl_had⟩)
    (e_had : PySem.W.codeIn K cd_had "had" = true)
    (k_had : PySem.W.keepIn K (.ref f_had) = true)
    (a_others_of : PySem.W.nsIn K mainGlobals "others_of" = some (some (.ref f_others_of)))
    (l_others_of : K.lookup f_others_of = some ⟨oc_others_of, od_others_of, .func (PySem.W.fnOf "others_of" "others_of" (defArgs s_others_of) (defBody s_others_of) (defScope s_others_of) .none kV_others_of dc_others_of pm_others_of an_others_of cd_others_of ct_others_of), sl_others_of⟩)
    (e_others_of : PySem.W.codeIn K cd_others_of "others_of" = true)
    (k_others_of : PySem.W.keepIn K (.ref f_others_of) = true)
    (a_next_count : PySem.W.nsIn K mainGlobals "next_count" = some (some (.ref f_next_count)))
    (l_next_count : K.lookup f_next_count = some ⟨oc_next_count, od_next_count, .func (PySem.W.fnOf "next_count" "next_count" (defArgs s_next_count) (defBody s_next_count) (defScope s_next_count) .none kV_next_count dc_next_count pm_next_count an_next_count cd_next_count ct_next_count), sl_next_count⟩)
    (e_next_count : PySem.W.codeIn K cd_next_count "next_count" = true)
    (k_next_count : PySem.W.keepIn K (.ref f_next_count) = true)
    (a_do_deed : PySem.W.nsIn K mainGlobals "do_deed" = some (some (.ref f_do_deed)))
    (l_do_deed : K.lookup f_do_deed = some ⟨oc_do_deed, od_do_deed, .func (PySem.W.fnOf "do_deed" "do_deed" (defArgs s_do_deed) (defBody s_do_deed) (defScope s_do_deed) .none kV_do_deed dc_do_deed pm_do_deed an_do_deed cd_do_deed ct_do_deed), sl_do_deed⟩)
    (e_do_deed : PySem.W.codeIn K cd_do_deed "do_deed" = true)
    (k_do_deed : PySem.W.keepIn K (.ref f_do_deed) = true)
    (a_places_of : PySem.W.nsIn K mainGlobals "places_of" = some (some (.ref f_places_of)))
    (l_places_of : K.lookup f_places_of = some ⟨oc_places_of, od_places_of, .func (PySem.W.fnOf "places_of" "places_of" (defArgs s_places_of) (defBody s_places_of) (defScope s_places_of) .none kV_places_of dc_places_of pm_places_of an_places_of cd_places_of ct_places_of), sl_places_of⟩)
    (e_places_of : PySem.W.codeIn K cd_places_of "places_of" = true)
    (k_places_of : PySem.W.keepIn K (.ref f_places_of) = true)
    (a_can_be_put : PySem.W.nsIn K mainGlobals "can_be_put" = some (some (.ref f_can_be_put)))
    (l_can_be_put : K.lookup f_can_be_put = some ⟨oc_can_be_put, od_can_be_put, .func (PySem.W.fnOf "can_be_put" "can_be_put" (defArgs s_can_be_put) (defBody s_can_be_put) (defScope s_can_be_put) .none kV_can_be_put dc_can_be_put pm_can_be_put an_can_be_put cd_can_be_put ct_can_be_put), sl_can_be_put⟩)
    (e_can_be_put : PySem.W.codeIn K cd_can_be_put "can_be_put" = true)
    (k_can_be_put : PySem.W.keepIn K (.ref f_can_be_put) = true)
    (a_is_there : PySem.W.nsIn K mainGlobals "is_there" = some (some (.ref f_is_there)))
    (l_is_there : K.lookup f_is_there = some ⟨oc_is_there, od_is_there, .func (PySem.W.fnOf "is_there" "is_there" (defArgs s_is_there) (defBody s_is_there) (defScope s_is_there) .none kV_is_there dc_is_there pm_is_there an_is_there cd_is_there ct_is_there), sl_is_there⟩)
    (e_is_there : PySem.W.codeIn K cd_is_there "is_there" = true)
    (k_is_there : PySem.W.keepIn K (.ref f_is_there) = true)
    (a_line_up : PySem.W.nsIn K mainGlobals "line_up" = some (some (.ref f_line_up)))
    (l_line_up : K.lookup f_line_up = some ⟨oc_line_up, od_line_up, .func (PySem.W.fnOf "line_up" "line_up" (defArgs s_line_up) (defBody s_line_up) (defScope s_line_up) .none kV_line_up dc_line_up pm_line_up an_line_up cd_line_up ct_line_up), sl_line_up⟩)
    (e_line_up : PySem.W.codeIn K cd_line_up "line_up" = true)
    (k_line_up : PySem.W.keepIn K (.ref f_line_up) = true)
    (a_Outline_init : PySem.W.findIn K (.ref C_Outline) "__init__" = some (some (.ref f_Outline_init)))
    (i_Outline_init : PySem.W.isFn K (.ref f_Outline_init) = true)
    (l_Outline_init : K.lookup f_Outline_init = some ⟨oc_Outline_init, od_Outline_init, .func (PySem.W.fnOf "__init__" "Outline.__init__" (defArgs s_Outline_init) (defBody s_Outline_init) (defScope s_Outline_init) .none kV_Outline_init dc_Outline_init pm_Outline_init an_Outline_init cd_Outline_init ct_Outline_init), sl_Outline_init⟩)
    (e_Outline_init : PySem.W.codeIn K cd_Outline_init "Outline.__init__" = true)
    (k_Outline_init : PySem.W.keepIn K (.ref f_Outline_init) = true)
    (a_outline_of : PySem.W.nsIn K mainGlobals "outline_of" = some (some (.ref f_outline_of)))
    (l_outline_of : K.lookup f_outline_of = some ⟨oc_outline_of, od_outline_of, .func (PySem.W.fnOf "outline_of" "outline_of" (defArgs s_outline_of) (defBody s_outline_of) (defScope s_outline_of) .none kV_outline_of dc_outline_of pm_outline_of an_outline_of cd_outline_of ct_outline_of), sl_outline_of⟩)
    (e_outline_of : PySem.W.codeIn K cd_outline_of "outline_of" = true)
    (k_outline_of : PySem.W.keepIn K (.ref f_outline_of) = true)
    (a_refusal_about : PySem.W.nsIn K mainGlobals "refusal_about" = some (some (.ref f_refusal_about)))
    (l_refusal_about : K.lookup f_refusal_about = some ⟨oc_refusal_about, od_refusal_about, .func (PySem.W.fnOf "refusal_about" "refusal_about" (defArgs s_refusal_about) (defBody s_refusal_about) (defScope s_refusal_about) .none kV_refusal_about dc_refusal_about pm_refusal_about an_refusal_about cd_refusal_about ct_refusal_about), sl_refusal_about⟩)
    (e_refusal_about : PySem.W.codeIn K cd_refusal_about "refusal_about" = true)
    (k_refusal_about : PySem.W.keepIn K (.ref f_refusal_about) = true)
    (a_row_of : PySem.W.nsIn K mainGlobals "row_of" = some (some (.ref f_row_of)))
    (l_row_of : K.lookup f_row_of = some ⟨oc_row_of, od_row_of, .func (PySem.W.fnOf "row_of" "row_of" (defArgs s_row_of) (defBody s_row_of) (defScope s_row_of) .none kV_row_of dc_row_of pm_row_of an_row_of cd_row_of ct_row_of), sl_row_of⟩)
    (e_row_of : PySem.W.codeIn K cd_row_of "row_of" = true)
    (k_row_of : PySem.W.keepIn K (.ref f_row_of) = true)
    (a_is_by : PySem.W.nsIn K mainGlobals "is_by" = some (some (.ref f_is_by)))
    (l_is_by : K.lookup f_is_by = some ⟨oc_is_by, od_is_by, .func (PySem.W.fnOf "is_by" "is_by" (defArgs s_is_by) (defBody s_is_by) (defScope s_is_by) .none kV_is_by dc_is_by pm_is_by an_is_by cd_is_by ct_is_by), sl_is_by⟩)
    (e_is_by : PySem.W.codeIn K cd_is_by "is_by" = true)
    (k_is_by : PySem.W.keepIn K (.ref f_is_by) = true)
    (a_things_in_row : PySem.W.nsIn K mainGlobals "things_in_row" = some (some (.ref f_things_in_row)))
    (l_things_in_row : K.lookup f_things_in_row = some ⟨oc_things_in_row, od_things_in_row, .func (PySem.W.fnOf "things_in_row" "things_in_row" (defArgs s_things_in_row) (defBody s_things_in_row) (defScope s_things_in_row) .none kV_things_in_row dc_things_in_row pm_things_in_row an_things_in_row cd_things_in_row ct_things_in_row), sl_things_in_row⟩)
    (e_things_in_row : PySem.W.codeIn K cd_things_in_row "things_in_row" = true)
    (k_things_in_row : PySem.W.keepIn K (.ref f_things_in_row) = true)
    (a_within : PySem.W.nsIn K mainGlobals "within" = some (some (.ref f_within)))
    (l_within : K.lookup f_within = some ⟨oc_within, od_within, .func (PySem.W.fnOf "within" "within" (defArgs s_within) (defBody s_within) (defScope s_within) .none kV_within dc_within pm_within an_within cd_within ct_within), sl_within⟩)
    (e_within : PySem.W.codeIn K cd_within "within" = true)
    (k_within : PySem.W.keepIn K (.ref f_within) = true)
    (a_ask_tree : PySem.W.nsIn K mainGlobals "ask_tree" = some (some (.ref f_ask_tree)))
    (l_ask_tree : K.lookup f_ask_tree = some ⟨oc_ask_tree, od_ask_tree, .func (PySem.W.fnOf "ask_tree" "ask_tree" (defArgs s_ask_tree) (defBody s_ask_tree) (defScope s_ask_tree) .none kV_ask_tree dc_ask_tree pm_ask_tree an_ask_tree cd_ask_tree ct_ask_tree), sl_ask_tree⟩)
    (e_ask_tree : PySem.W.codeIn K cd_ask_tree "ask_tree" = true)
    (k_ask_tree : PySem.W.keepIn K (.ref f_ask_tree) = true)
    (a_ask_row : PySem.W.nsIn K mainGlobals "ask_row" = some (some (.ref f_ask_row)))
    (l_ask_row : K.lookup f_ask_row = some ⟨oc_ask_row, od_ask_row, .func (PySem.W.fnOf "ask_row" "ask_row" (defArgs s_ask_row) (defBody s_ask_row) (defScope s_ask_row) .none kV_ask_row dc_ask_row pm_ask_row an_ask_row cd_ask_row ct_ask_row), sl_ask_row⟩)
    (e_ask_row : PySem.W.codeIn K cd_ask_row "ask_row" = true)
    (k_ask_row : PySem.W.keepIn K (.ref f_ask_row) = true)
    (a_ask_line : PySem.W.nsIn K mainGlobals "ask_line" = some (some (.ref f_ask_line)))
    (l_ask_line : K.lookup f_ask_line = some ⟨oc_ask_line, od_ask_line, .func (PySem.W.fnOf "ask_line" "ask_line" (defArgs s_ask_line) (defBody s_ask_line) (defScope s_ask_line) .none kV_ask_line dc_ask_line pm_ask_line an_ask_line cd_ask_line ct_ask_line), sl_ask_line⟩)
    (e_ask_line : PySem.W.codeIn K cd_ask_line "ask_line" = true)
    (k_ask_line : PySem.W.keepIn K (.ref f_ask_line) = true)
    (a_ask_values : PySem.W.nsIn K mainGlobals "ask_values" = some (some (.ref f_ask_values)))
    (l_ask_values : K.lookup f_ask_values = some ⟨oc_ask_values, od_ask_values, .func (PySem.W.fnOf "ask_values" "ask_values" (defArgs s_ask_values) (defBody s_ask_values) (defScope s_ask_values) .none kV_ask_values dc_ask_values pm_ask_values an_ask_values cd_ask_values ct_ask_values), sl_ask_values⟩)
    (e_ask_values : PySem.W.codeIn K cd_ask_values "ask_values" = true)
    (k_ask_values : PySem.W.keepIn K (.ref f_ask_values) = true)
    (a_ask_amounts : PySem.W.nsIn K mainGlobals "ask_amounts" = some (some (.ref f_ask_amounts)))
    (l_ask_amounts : K.lookup f_ask_amounts = some ⟨oc_ask_amounts, od_ask_amounts, .func (PySem.W.fnOf "ask_amounts" "ask_amounts" (defArgs s_ask_amounts) (defBody s_ask_amounts) (defScope s_ask_amounts) .none kV_ask_amounts dc_ask_amounts pm_ask_amounts an_ask_amounts cd_ask_amounts ct_ask_amounts), sl_ask_amounts⟩)
    (e_ask_amounts : PySem.W.codeIn K cd_ask_amounts "ask_amounts" = true)
    (k_ask_amounts : PySem.W.keepIn K (.ref f_ask_amounts) = true)
    (a_ask_find : PySem.W.nsIn K mainGlobals "ask_find" = some (some (.ref f_ask_find)))
    (l_ask_find : K.lookup f_ask_find = some ⟨oc_ask_find, od_ask_find, .func (PySem.W.fnOf "ask_find" "ask_find" (defArgs s_ask_find) (defBody s_ask_find) (defScope s_ask_find) .none kV_ask_find dc_ask_find pm_ask_find an_ask_find cd_ask_find ct_ask_find), sl_ask_find⟩)
    (e_ask_find : PySem.W.codeIn K cd_ask_find "ask_find" = true)
    (k_ask_find : PySem.W.keepIn K (.ref f_ask_find) = true)
    (a_has_value : PySem.W.nsIn K mainGlobals "has_value" = some (some (.ref f_has_value)))
    (l_has_value : K.lookup f_has_value = some ⟨oc_has_value, od_has_value, .func (PySem.W.fnOf "has_value" "has_value" (defArgs s_has_value) (defBody s_has_value) (defScope s_has_value) .none kV_has_value dc_has_value pm_has_value an_has_value cd_has_value ct_has_value), sl_has_value⟩)
    (e_has_value : PySem.W.codeIn K cd_has_value "has_value" = true)
    (k_has_value : PySem.W.keepIn K (.ref f_has_value) = true)
    (a_ask_same : PySem.W.nsIn K mainGlobals "ask_same" = some (some (.ref f_ask_same)))
    (l_ask_same : K.lookup f_ask_same = some ⟨oc_ask_same, od_ask_same, .func (PySem.W.fnOf "ask_same" "ask_same" (defArgs s_ask_same) (defBody s_ask_same) (defScope s_ask_same) .none kV_ask_same dc_ask_same pm_ask_same an_ask_same cd_ask_same ct_ask_same), sl_ask_same⟩)
    (e_ask_same : PySem.W.codeIn K cd_ask_same "ask_same" = true)
    (k_ask_same : PySem.W.keepIn K (.ref f_ask_same) = true)
    (a_counted : PySem.W.nsIn K mainGlobals "counted" = some (some (.ref f_counted)))
    (l_counted : K.lookup f_counted = some ⟨oc_counted, od_counted, .func (PySem.W.fnOf "counted" "counted" (defArgs s_counted) (defBody s_counted) (defScope s_counted) .none kV_counted dc_counted pm_counted an_counted cd_counted ct_counted), sl_counted⟩)
    (e_counted : PySem.W.codeIn K cd_counted "counted" = true)
    (k_counted : PySem.W.keepIn K (.ref f_counted) = true)
    (a_counted_pairs : PySem.W.nsIn K mainGlobals "counted_pairs" = some (some (.ref f_counted_pairs)))
    (l_counted_pairs : K.lookup f_counted_pairs = some ⟨oc_counted_pairs, od_counted_pairs, .func (PySem.W.fnOf "counted_pairs" "counted_pairs" (defArgs s_counted_pairs) (defBody s_counted_pairs) (defScope s_counted_pairs) .none kV_counted_pairs dc_counted_pairs pm_counted_pairs an_counted_pairs cd_counted_pairs ct_counted_pairs), sl_counted_pairs⟩)
    (e_counted_pairs : PySem.W.codeIn K cd_counted_pairs "counted_pairs" = true)
    (k_counted_pairs : PySem.W.keepIn K (.ref f_counted_pairs) = true)
    (a_begin : PySem.W.nsIn K mainGlobals "begin" = some (some (.ref f_begin)))
    (l_begin : K.lookup f_begin = some ⟨oc_begin, od_begin, .func (PySem.W.fnOf "begin" "begin" (defArgs s_begin) (defBody s_begin) (defScope s_begin) .none kV_begin dc_begin pm_begin an_begin cd_begin ct_begin), sl_begin⟩)
    (e_begin : PySem.W.codeIn K cd_begin "begin" = true)
    (k_begin : PySem.W.keepIn K (.ref f_begin) = true)
    (a_make : PySem.W.nsIn K mainGlobals "make" = some (some (.ref f_make)))
    (l_make : K.lookup f_make = some ⟨oc_make, od_make, .func (PySem.W.fnOf "make" "make" (defArgs s_make) (defBody s_make) (defScope s_make) .none kV_make dc_make pm_make an_make cd_make ct_make), sl_make⟩)
    (e_make : PySem.W.codeIn K cd_make "make" = true)
    (k_make : PySem.W.keepIn K (.ref f_make) = true)
    (a_move : PySem.W.nsIn K mainGlobals "move" = some (some (.ref f_move)))
    (l_move : K.lookup f_move = some ⟨oc_move, od_move, .func (PySem.W.fnOf "move" "move" (defArgs s_move) (defBody s_move) (defScope s_move) .none kV_move dc_move pm_move an_move cd_move ct_move), sl_move⟩)
    (e_move : PySem.W.codeIn K cd_move "move" = true)
    (k_move : PySem.W.keepIn K (.ref f_move) = true)
    (a_can_move : PySem.W.nsIn K mainGlobals "can_move" = some (some (.ref f_can_move)))
    (l_can_move : K.lookup f_can_move = some ⟨oc_can_move, od_can_move, .func (PySem.W.fnOf "can_move" "can_move" (defArgs s_can_move) (defBody s_can_move) (defScope s_can_move) .none kV_can_move dc_can_move pm_can_move an_can_move cd_can_move ct_can_move), sl_can_move⟩)
    (e_can_move : PySem.W.codeIn K cd_can_move "can_move" = true)
    (k_can_move : PySem.W.keepIn K (.ref f_can_move) = true)
    (a_put_behind : PySem.W.nsIn K mainGlobals "put_behind" = some (some (.ref f_put_behind)))
    (l_put_behind : K.lookup f_put_behind = some ⟨oc_put_behind, od_put_behind, .func (PySem.W.fnOf "put_behind" "put_behind" (defArgs s_put_behind) (defBody s_put_behind) (defScope s_put_behind) .none kV_put_behind dc_put_behind pm_put_behind an_put_behind cd_put_behind ct_put_behind), sl_put_behind⟩)
    (e_put_behind : PySem.W.codeIn K cd_put_behind "put_behind" = true)
    (k_put_behind : PySem.W.keepIn K (.ref f_put_behind) = true)
    (a_tell : PySem.W.nsIn K mainGlobals "tell" = some (some (.ref f_tell)))
    (l_tell : K.lookup f_tell = some ⟨oc_tell, od_tell, .func (PySem.W.fnOf "tell" "tell" (defArgs s_tell) (defBody s_tell) (defScope s_tell) .none kV_tell dc_tell pm_tell an_tell cd_tell ct_tell), sl_tell⟩)
    (e_tell : PySem.W.codeIn K cd_tell "tell" = true)
    (k_tell : PySem.W.keepIn K (.ref f_tell) = true)
    (a_clear_field : PySem.W.nsIn K mainGlobals "clear_field" = some (some (.ref f_clear_field)))
    (l_clear_field : K.lookup f_clear_field = some ⟨oc_clear_field, od_clear_field, .func (PySem.W.fnOf "clear_field" "clear_field" (defArgs s_clear_field) (defBody s_clear_field) (defScope s_clear_field) .none kV_clear_field dc_clear_field pm_clear_field an_clear_field cd_clear_field ct_clear_field), sl_clear_field⟩)
    (e_clear_field : PySem.W.codeIn K cd_clear_field "clear_field" = true)
    (k_clear_field : PySem.W.keepIn K (.ref f_clear_field) = true)
    (a_add_amount : PySem.W.nsIn K mainGlobals "add_amount" = some (some (.ref f_add_amount)))
    (l_add_amount : K.lookup f_add_amount = some ⟨oc_add_amount, od_add_amount, .func (PySem.W.fnOf "add_amount" "add_amount" (defArgs s_add_amount) (defBody s_add_amount) (defScope s_add_amount) .none kV_add_amount dc_add_amount pm_add_amount an_add_amount cd_add_amount ct_add_amount), sl_add_amount⟩)
    (e_add_amount : PySem.W.codeIn K cd_add_amount "add_amount" = true)
    (k_add_amount : PySem.W.keepIn K (.ref f_add_amount) = true)
    (a_less_amount : PySem.W.nsIn K mainGlobals "less_amount" = some (some (.ref f_less_amount)))
    (l_less_amount : K.lookup f_less_amount = some ⟨oc_less_amount, od_less_amount, .func (PySem.W.fnOf "less_amount" "less_amount" (defArgs s_less_amount) (defBody s_less_amount) (defScope s_less_amount) .none kV_less_amount dc_less_amount pm_less_amount an_less_amount cd_less_amount ct_less_amount), sl_less_amount⟩)
    (e_less_amount : PySem.W.codeIn K cd_less_amount "less_amount" = true)
    (k_less_amount : PySem.W.keepIn K (.ref f_less_amount) = true)
    (a_do_to_thing : PySem.W.nsIn K mainGlobals "do_to_thing" = some (some (.ref f_do_to_thing)))
    (l_do_to_thing : K.lookup f_do_to_thing = some ⟨oc_do_to_thing, od_do_to_thing, .func (PySem.W.fnOf "do_to_thing" "do_to_thing" (defArgs s_do_to_thing) (defBody s_do_to_thing) (defScope s_do_to_thing) .none kV_do_to_thing dc_do_to_thing pm_do_to_thing an_do_to_thing cd_do_to_thing ct_do_to_thing), sl_do_to_thing⟩)
    (e_do_to_thing : PySem.W.codeIn K cd_do_to_thing "do_to_thing" = true)
    (k_do_to_thing : PySem.W.keepIn K (.ref f_do_to_thing) = true)
    (a_refusal_to_thing : PySem.W.nsIn K mainGlobals "refusal_to_thing" = some (some (.ref f_refusal_to_thing)))
    (l_refusal_to_thing : K.lookup f_refusal_to_thing = some ⟨oc_refusal_to_thing, od_refusal_to_thing, .func (PySem.W.fnOf "refusal_to_thing" "refusal_to_thing" (defArgs s_refusal_to_thing) (defBody s_refusal_to_thing) (defScope s_refusal_to_thing) .none kV_refusal_to_thing dc_refusal_to_thing pm_refusal_to_thing an_refusal_to_thing cd_refusal_to_thing ct_refusal_to_thing), sl_refusal_to_thing⟩)
    (e_refusal_to_thing : PySem.W.codeIn K cd_refusal_to_thing "refusal_to_thing" = true)
    (k_refusal_to_thing : PySem.W.keepIn K (.ref f_refusal_to_thing) = true)
    (a_forget : PySem.W.nsIn K mainGlobals "forget" = some (some (.ref f_forget)))
    (l_forget : K.lookup f_forget = some ⟨oc_forget, od_forget, .func (PySem.W.fnOf "forget" "forget" (defArgs s_forget) (defBody s_forget) (defScope s_forget) .none kV_forget dc_forget pm_forget an_forget cd_forget ct_forget), sl_forget⟩)
    (e_forget : PySem.W.codeIn K cd_forget "forget" = true)
    (k_forget : PySem.W.keepIn K (.ref f_forget) = true)
    (a_ask_kept : PySem.W.nsIn K mainGlobals "ask_kept" = some (some (.ref f_ask_kept)))
    (l_ask_kept : K.lookup f_ask_kept = some ⟨oc_ask_kept, od_ask_kept, .func (PySem.W.fnOf "ask_kept" "ask_kept" (defArgs s_ask_kept) (defBody s_ask_kept) (defScope s_ask_kept) .none kV_ask_kept dc_ask_kept pm_ask_kept an_ask_kept cd_ask_kept ct_ask_kept), sl_ask_kept⟩)
    (e_ask_kept : PySem.W.codeIn K cd_ask_kept "ask_kept" = true)
    (k_ask_kept : PySem.W.keepIn K (.ref f_ask_kept) = true)
    (a_kept_deeds : PySem.W.nsIn K mainGlobals "kept_deeds" = some (some (.ref f_kept_deeds)))
    (l_kept_deeds : K.lookup f_kept_deeds = some ⟨oc_kept_deeds, od_kept_deeds, .func (PySem.W.fnOf "kept_deeds" "kept_deeds" (defArgs s_kept_deeds) (defBody s_kept_deeds) (defScope s_kept_deeds) .none kV_kept_deeds dc_kept_deeds pm_kept_deeds an_kept_deeds cd_kept_deeds ct_kept_deeds), sl_kept_deeds⟩)
    (e_kept_deeds : PySem.W.codeIn K cd_kept_deeds "kept_deeds" = true)
    (k_kept_deeds : PySem.W.keepIn K (.ref f_kept_deeds) = true)
    (a_ripe_deeds : PySem.W.nsIn K mainGlobals "ripe_deeds" = some (some (.ref f_ripe_deeds)))
    (l_ripe_deeds : K.lookup f_ripe_deeds = some ⟨oc_ripe_deeds, od_ripe_deeds, .func (PySem.W.fnOf "ripe_deeds" "ripe_deeds" (defArgs s_ripe_deeds) (defBody s_ripe_deeds) (defScope s_ripe_deeds) .none kV_ripe_deeds dc_ripe_deeds pm_ripe_deeds an_ripe_deeds cd_ripe_deeds ct_ripe_deeds), sl_ripe_deeds⟩)
    (e_ripe_deeds : PySem.W.codeIn K cd_ripe_deeds "ripe_deeds" = true)
    (k_ripe_deeds : PySem.W.keepIn K (.ref f_ripe_deeds) = true)
    (a_settled_count : PySem.W.nsIn K mainGlobals "settled_count" = some (some (.ref f_settled_count)))
    (l_settled_count : K.lookup f_settled_count = some ⟨oc_settled_count, od_settled_count, .func (PySem.W.fnOf "settled_count" "settled_count" (defArgs s_settled_count) (defBody s_settled_count) (defScope s_settled_count) .none kV_settled_count dc_settled_count pm_settled_count an_settled_count cd_settled_count ct_settled_count), sl_settled_count⟩)
    (e_settled_count : PySem.W.codeIn K cd_settled_count "settled_count" = true)
    (k_settled_count : PySem.W.keepIn K (.ref f_settled_count) = true)
    (a_is_sure_of_all : PySem.W.nsIn K mainGlobals "is_sure_of_all" = some (some (.ref f_is_sure_of_all)))
    (l_is_sure_of_all : K.lookup f_is_sure_of_all = some ⟨oc_is_sure_of_all, od_is_sure_of_all, .func (PySem.W.fnOf "is_sure_of_all" "is_sure_of_all" (defArgs s_is_sure_of_all) (defBody s_is_sure_of_all) (defScope s_is_sure_of_all) .none kV_is_sure_of_all dc_is_sure_of_all pm_is_sure_of_all an_is_sure_of_all cd_is_sure_of_all ct_is_sure_of_all), sl_is_sure_of_all⟩)
    (e_is_sure_of_all : PySem.W.codeIn K cd_is_sure_of_all "is_sure_of_all" = true)
    (k_is_sure_of_all : PySem.W.keepIn K (.ref f_is_sure_of_all) = true)
    (a_send : PySem.W.nsIn K mainGlobals "send" = some (some (.ref f_send)))
    (l_send : K.lookup f_send = some ⟨oc_send, od_send, .func (PySem.W.fnOf "send" "send" (defArgs s_send) (defBody s_send) (defScope s_send) .none kV_send dc_send pm_send an_send cd_send ct_send), sl_send⟩)
    (e_send : PySem.W.codeIn K cd_send "send" = true)
    (k_send : PySem.W.keepIn K (.ref f_send) = true)
    (a_written : PySem.W.nsIn K mainGlobals "written" = some (some (.ref f_written)))
    (l_written : K.lookup f_written = some ⟨oc_written, od_written, .func (PySem.W.fnOf "written" "written" (defArgs s_written) (defBody s_written) (defScope s_written) .none kV_written dc_written pm_written an_written cd_written ct_written), sl_written⟩)
    (e_written : PySem.W.codeIn K cd_written "written" = true)
    (k_written : PySem.W.keepIn K (.ref f_written) = true)
    (a_unsure : PySem.W.nsIn K mainGlobals "unsure" = some (some (.ref f_unsure)))
    (l_unsure : K.lookup f_unsure = some ⟨oc_unsure, od_unsure, .func (PySem.W.fnOf "unsure" "unsure" (defArgs s_unsure) (defBody s_unsure) (defScope s_unsure) .none kV_unsure dc_unsure pm_unsure an_unsure cd_unsure ct_unsure), sl_unsure⟩)
    (e_unsure : PySem.W.codeIn K cd_unsure "unsure" = true)
    (k_unsure : PySem.W.keepIn K (.ref f_unsure) = true)
    (a_comes : PySem.W.nsIn K mainGlobals "comes" = some (some (.ref f_comes)))
    (l_comes : K.lookup f_comes = some ⟨oc_comes, od_comes, .func (PySem.W.fnOf "comes" "comes" (defArgs s_comes) (defBody s_comes) (defScope s_comes) .none kV_comes dc_comes pm_comes an_comes cd_comes ct_comes), sl_comes⟩)
    (e_comes : PySem.W.codeIn K cd_comes "comes" = true)
    (k_comes : PySem.W.keepIn K (.ref f_comes) = true)
    (a_hear : PySem.W.nsIn K mainGlobals "hear" = some (some (.ref f_hear)))
    (l_hear : K.lookup f_hear = some ⟨oc_hear, od_hear, .func (PySem.W.fnOf "hear" "hear" (defArgs s_hear) (defBody s_hear) (defScope s_hear) .none kV_hear dc_hear pm_hear an_hear cd_hear ct_hear), sl_hear⟩)
    (e_hear : PySem.W.codeIn K cd_hear "hear" = true)
    (k_hear : PySem.W.keepIn K (.ref f_hear) = true)
    (a_greater_of_each : PySem.W.nsIn K mainGlobals "greater_of_each" = some (some (.ref f_greater_of_each)))
    (l_greater_of_each : K.lookup f_greater_of_each = some ⟨oc_greater_of_each, od_greater_of_each, .func (PySem.W.fnOf "greater_of_each" "greater_of_each" (defArgs s_greater_of_each) (defBody s_greater_of_each) (defScope s_greater_of_each) .none kV_greater_of_each dc_greater_of_each pm_greater_of_each an_greater_of_each cd_greater_of_each ct_greater_of_each), sl_greater_of_each⟩)
    (e_greater_of_each : PySem.W.codeIn K cd_greater_of_each "greater_of_each" = true)
    (k_greater_of_each : PySem.W.keepIn K (.ref f_greater_of_each) = true)
    (a_back : PySem.W.nsIn K mainGlobals "back" = some (some (.ref f_back)))
    (l_back : K.lookup f_back = some ⟨oc_back, od_back, .func (PySem.W.fnOf "back" "back" (defArgs s_back) (defBody s_back) (defScope s_back) .none kV_back dc_back pm_back an_back cd_back ct_back), sl_back⟩)
    (e_back : PySem.W.codeIn K cd_back "back" = true)
    (k_back : PySem.W.keepIn K (.ref f_back) = true)
    (a_undo : PySem.W.nsIn K mainGlobals "undo" = some (some (.ref f_undo)))
    (l_undo : K.lookup f_undo = some ⟨oc_undo, od_undo, .func (PySem.W.fnOf "undo" "undo" (defArgs s_undo) (defBody s_undo) (defScope s_undo) .none kV_undo dc_undo pm_undo an_undo cd_undo ct_undo), sl_undo⟩)
    (e_undo : PySem.W.codeIn K cd_undo "undo" = true)
    (k_undo : PySem.W.keepIn K (.ref f_undo) = true)
    (a_redo : PySem.W.nsIn K mainGlobals "redo" = some (some (.ref f_redo)))
    (l_redo : K.lookup f_redo = some ⟨oc_redo, od_redo, .func (PySem.W.fnOf "redo" "redo" (defArgs s_redo) (defBody s_redo) (defScope s_redo) .none kV_redo dc_redo pm_redo an_redo cd_redo ct_redo), sl_redo⟩)
    (e_redo : PySem.W.codeIn K cd_redo "redo" = true)
    (k_redo : PySem.W.keepIn K (.ref f_redo) = true)
    (a_taken_last : PySem.W.nsIn K mainGlobals "taken_last" = some (some (.ref f_taken_last)))
    (l_taken_last : K.lookup f_taken_last = some ⟨oc_taken_last, od_taken_last, .func (PySem.W.fnOf "taken_last" "taken_last" (defArgs s_taken_last) (defBody s_taken_last) (defScope s_taken_last) .none kV_taken_last dc_taken_last pm_taken_last an_taken_last cd_taken_last ct_taken_last), sl_taken_last⟩)
    (e_taken_last : PySem.W.codeIn K cd_taken_last "taken_last" = true)
    (k_taken_last : PySem.W.keepIn K (.ref f_taken_last) = true)
    (a_is_own_change : PySem.W.nsIn K mainGlobals "is_own_change" = some (some (.ref f_is_own_change)))
    (l_is_own_change : K.lookup f_is_own_change = some ⟨oc_is_own_change, od_is_own_change, .func (PySem.W.fnOf "is_own_change" "is_own_change" (defArgs s_is_own_change) (defBody s_is_own_change) (defScope s_is_own_change) .none kV_is_own_change dc_is_own_change pm_is_own_change an_is_own_change cd_is_own_change ct_is_own_change), sl_is_own_change⟩)
    (e_is_own_change : PySem.W.codeIn K cd_is_own_change "is_own_change" = true)
    (k_is_own_change : PySem.W.keepIn K (.ref f_is_own_change) = true)
    (a_numbers_held : PySem.W.nsIn K mainGlobals "numbers_held" = some (some (.ref f_numbers_held)))
    (l_numbers_held : K.lookup f_numbers_held = some ⟨oc_numbers_held, od_numbers_held, .func (PySem.W.fnOf "numbers_held" "numbers_held" (defArgs s_numbers_held) (defBody s_numbers_held) (defScope s_numbers_held) .none kV_numbers_held dc_numbers_held pm_numbers_held an_numbers_held cd_numbers_held ct_numbers_held), sl_numbers_held⟩)
    (e_numbers_held : PySem.W.codeIn K cd_numbers_held "numbers_held" = true)
    (k_numbers_held : PySem.W.keepIn K (.ref f_numbers_held) = true)
    (a_is_too_late : PySem.W.nsIn K mainGlobals "is_too_late" = some (some (.ref f_is_too_late)))
    (l_is_too_late : K.lookup f_is_too_late = some ⟨oc_is_too_late, od_is_too_late, .func (PySem.W.fnOf "is_too_late" "is_too_late" (defArgs s_is_too_late) (defBody s_is_too_late) (defScope s_is_too_late) .none kV_is_too_late dc_is_too_late pm_is_too_late an_is_too_late cd_is_too_late ct_is_too_late), sl_is_too_late⟩)
    (e_is_too_late : PySem.W.codeIn K cd_is_too_late "is_too_late" = true)
    (k_is_too_late : PySem.W.keepIn K (.ref f_is_too_late) = true)
    (a_answers : PySem.W.nsIn K mainGlobals "answers" = some (some (.ref f_answers)))
    (l_answers : K.lookup f_answers = some ⟨oc_answers, od_answers, .func (PySem.W.fnOf "answers" "answers" (defArgs s_answers) (defBody s_answers) (defScope s_answers) .none kV_answers dc_answers pm_answers an_answers cd_answers ct_answers), sl_answers⟩)
    (e_answers : PySem.W.codeIn K cd_answers "answers" = true)
    (k_answers : PySem.W.keepIn K (.ref f_answers) = true)
    (a_answers_of : PySem.W.nsIn K mainGlobals "answers_of" = some (some (.ref f_answers_of)))
    (l_answers_of : K.lookup f_answers_of = some ⟨oc_answers_of, od_answers_of, .func (PySem.W.fnOf "answers_of" "answers_of" (defArgs s_answers_of) (defBody s_answers_of) (defScope s_answers_of) .none kV_answers_of dc_answers_of pm_answers_of an_answers_of cd_answers_of ct_answers_of), sl_answers_of⟩)
    (e_answers_of : PySem.W.codeIn K cd_answers_of "answers_of" = true)
    (k_answers_of : PySem.W.keepIn K (.ref f_answers_of) = true)
    (a_answer_of : PySem.W.nsIn K mainGlobals "answer_of" = some (some (.ref f_answer_of)))
    (l_answer_of : K.lookup f_answer_of = some ⟨oc_answer_of, od_answer_of, .func (PySem.W.fnOf "answer_of" "answer_of" (defArgs s_answer_of) (defBody s_answer_of) (defScope s_answer_of) .none kV_answer_of dc_answer_of pm_answer_of an_answer_of cd_answer_of ct_answer_of), sl_answer_of⟩)
    (e_answer_of : PySem.W.codeIn K cd_answer_of "answer_of" = true)
    (k_answer_of : PySem.W.keepIn K (.ref f_answer_of) = true)
    (a_answer_of_change : PySem.W.nsIn K mainGlobals "answer_of_change" = some (some (.ref f_answer_of_change)))
    (l_answer_of_change : K.lookup f_answer_of_change = some ⟨oc_answer_of_change, od_answer_of_change, .func (PySem.W.fnOf "answer_of_change" "answer_of_change" (defArgs s_answer_of_change) (defBody s_answer_of_change) (defScope s_answer_of_change) .none kV_answer_of_change dc_answer_of_change pm_answer_of_change an_answer_of_change cd_answer_of_change ct_answer_of_change), sl_answer_of_change⟩)
    (e_answer_of_change : PySem.W.codeIn K cd_answer_of_change "answer_of_change" = true)
    (k_answer_of_change : PySem.W.keepIn K (.ref f_answer_of_change) = true)
    (a_answer_of_taking : PySem.W.nsIn K mainGlobals "answer_of_taking" = some (some (.ref f_answer_of_taking)))
    (l_answer_of_taking : K.lookup f_answer_of_taking = some ⟨oc_answer_of_taking, od_answer_of_taking, .func (PySem.W.fnOf "answer_of_taking" "answer_of_taking" (defArgs s_answer_of_taking) (defBody s_answer_of_taking) (defScope s_answer_of_taking) .none kV_answer_of_taking dc_answer_of_taking pm_answer_of_taking an_answer_of_taking cd_answer_of_taking ct_answer_of_taking), sl_answer_of_taking⟩)
    (e_answer_of_taking : PySem.W.codeIn K cd_answer_of_taking "answer_of_taking" = true)
    (k_answer_of_taking : PySem.W.keepIn K (.ref f_answer_of_taking) = true)
    (a_answer_of_keeping : PySem.W.nsIn K mainGlobals "answer_of_keeping" = some (some (.ref f_answer_of_keeping)))
    (l_answer_of_keeping : K.lookup f_answer_of_keeping = some ⟨oc_answer_of_keeping, od_answer_of_keeping, .func (PySem.W.fnOf "answer_of_keeping" "answer_of_keeping" (defArgs s_answer_of_keeping) (defBody s_answer_of_keeping) (defScope s_answer_of_keeping) .none kV_answer_of_keeping dc_answer_of_keeping pm_answer_of_keeping an_answer_of_keeping cd_answer_of_keeping ct_answer_of_keeping), sl_answer_of_keeping⟩)
    (e_answer_of_keeping : PySem.W.codeIn K cd_answer_of_keeping "answer_of_keeping" = true)
    (k_answer_of_keeping : PySem.W.keepIn K (.ref f_answer_of_keeping) = true)
    (a_answer_of_question : PySem.W.nsIn K mainGlobals "answer_of_question" = some (some (.ref f_answer_of_question)))
    (l_answer_of_question : K.lookup f_answer_of_question = some ⟨oc_answer_of_question, od_answer_of_question, .func (PySem.W.fnOf "answer_of_question" "answer_of_question" (defArgs s_answer_of_question) (defBody s_answer_of_question) (defScope s_answer_of_question) .none kV_answer_of_question dc_answer_of_question pm_answer_of_question an_answer_of_question cd_answer_of_question ct_answer_of_question), sl_answer_of_question⟩)
    (e_answer_of_question : PySem.W.codeIn K cd_answer_of_question "answer_of_question" = true)
    (k_answer_of_question : PySem.W.keepIn K (.ref f_answer_of_question) = true)
    (ob_get : PySem.W.specialIn K (.builtin "object.__class__") "__get__" = some (some (.builtin "getset_descriptor.__get__")))
    (ob_tk : PySem.W.takesIn K (.builtin "object.__class__") = some true)
    (tc_Put : PySem.W.findIn K (.ref C_Put) "__class__" = some (some (.builtin "object.__class__")))
    (tm_Put : PySem.W.mroIn K C_Put (.type "object") = some true)
    (is_Put_Adding : PySem.W.kitOne K (.ref C_Put) (.ref C_Adding) = some false)
    (is_Put_Put : PySem.W.kitOne K (.ref C_Put) (.ref C_Put) = some true)
    (is_Put_TakingBack : PySem.W.kitOne K (.ref C_Put) (.ref C_TakingBack) = some false)
    (is_Put_TakingBack_DoingAgain : PySem.W.kitAny K (.ref C_Put) [.ref C_TakingBack, .ref C_DoingAgain] = some false)
    (is_Put_Telling : PySem.W.kitOne K (.ref C_Put) (.ref C_Telling) = some false)
    (is_Put_Telling_Clearing : PySem.W.kitAny K (.ref C_Put) [.ref C_Telling, .ref C_Clearing] = some false)
    (tc_Telling : PySem.W.findIn K (.ref C_Telling) "__class__" = some (some (.builtin "object.__class__")))
    (tm_Telling : PySem.W.mroIn K C_Telling (.type "object") = some true)
    (is_Telling_Adding : PySem.W.kitOne K (.ref C_Telling) (.ref C_Adding) = some false)
    (is_Telling_Put : PySem.W.kitOne K (.ref C_Telling) (.ref C_Put) = some false)
    (is_Telling_TakingBack : PySem.W.kitOne K (.ref C_Telling) (.ref C_TakingBack) = some false)
    (is_Telling_TakingBack_DoingAgain : PySem.W.kitAny K (.ref C_Telling) [.ref C_TakingBack, .ref C_DoingAgain] = some false)
    (is_Telling_Telling : PySem.W.kitOne K (.ref C_Telling) (.ref C_Telling) = some true)
    (is_Telling_Telling_Clearing : PySem.W.kitAny K (.ref C_Telling) [.ref C_Telling, .ref C_Clearing] = some true)
    (tc_Clearing : PySem.W.findIn K (.ref C_Clearing) "__class__" = some (some (.builtin "object.__class__")))
    (tm_Clearing : PySem.W.mroIn K C_Clearing (.type "object") = some true)
    (is_Clearing_Adding : PySem.W.kitOne K (.ref C_Clearing) (.ref C_Adding) = some false)
    (is_Clearing_Put : PySem.W.kitOne K (.ref C_Clearing) (.ref C_Put) = some false)
    (is_Clearing_TakingBack : PySem.W.kitOne K (.ref C_Clearing) (.ref C_TakingBack) = some false)
    (is_Clearing_TakingBack_DoingAgain : PySem.W.kitAny K (.ref C_Clearing) [.ref C_TakingBack, .ref C_DoingAgain] = some false)
    (is_Clearing_Telling : PySem.W.kitOne K (.ref C_Clearing) (.ref C_Telling) = some false)
    (is_Clearing_Telling_Clearing : PySem.W.kitAny K (.ref C_Clearing) [.ref C_Telling, .ref C_Clearing] = some true)
    (tc_Adding : PySem.W.findIn K (.ref C_Adding) "__class__" = some (some (.builtin "object.__class__")))
    (tm_Adding : PySem.W.mroIn K C_Adding (.type "object") = some true)
    (is_Adding_Adding : PySem.W.kitOne K (.ref C_Adding) (.ref C_Adding) = some true)
    (is_Adding_Put : PySem.W.kitOne K (.ref C_Adding) (.ref C_Put) = some false)
    (is_Adding_TakingBack : PySem.W.kitOne K (.ref C_Adding) (.ref C_TakingBack) = some false)
    (is_Adding_TakingBack_DoingAgain : PySem.W.kitAny K (.ref C_Adding) [.ref C_TakingBack, .ref C_DoingAgain] = some false)
    (is_Adding_Telling : PySem.W.kitOne K (.ref C_Adding) (.ref C_Telling) = some false)
    (is_Adding_Telling_Clearing : PySem.W.kitAny K (.ref C_Adding) [.ref C_Telling, .ref C_Clearing] = some false)
    (tc_TakingBack : PySem.W.findIn K (.ref C_TakingBack) "__class__" = some (some (.builtin "object.__class__")))
    (tm_TakingBack : PySem.W.mroIn K C_TakingBack (.type "object") = some true)
    (is_TakingBack_Adding : PySem.W.kitOne K (.ref C_TakingBack) (.ref C_Adding) = some false)
    (is_TakingBack_Put : PySem.W.kitOne K (.ref C_TakingBack) (.ref C_Put) = some false)
    (is_TakingBack_TakingBack : PySem.W.kitOne K (.ref C_TakingBack) (.ref C_TakingBack) = some true)
    (is_TakingBack_TakingBack_DoingAgain : PySem.W.kitAny K (.ref C_TakingBack) [.ref C_TakingBack, .ref C_DoingAgain] = some true)
    (is_TakingBack_Telling : PySem.W.kitOne K (.ref C_TakingBack) (.ref C_Telling) = some false)
    (is_TakingBack_Telling_Clearing : PySem.W.kitAny K (.ref C_TakingBack) [.ref C_Telling, .ref C_Clearing] = some false)
    (tc_DoingAgain : PySem.W.findIn K (.ref C_DoingAgain) "__class__" = some (some (.builtin "object.__class__")))
    (tm_DoingAgain : PySem.W.mroIn K C_DoingAgain (.type "object") = some true)
    (is_DoingAgain_Adding : PySem.W.kitOne K (.ref C_DoingAgain) (.ref C_Adding) = some false)
    (is_DoingAgain_Put : PySem.W.kitOne K (.ref C_DoingAgain) (.ref C_Put) = some false)
    (is_DoingAgain_TakingBack : PySem.W.kitOne K (.ref C_DoingAgain) (.ref C_TakingBack) = some false)
    (is_DoingAgain_TakingBack_DoingAgain : PySem.W.kitAny K (.ref C_DoingAgain) [.ref C_TakingBack, .ref C_DoingAgain] = some true)
    (is_DoingAgain_Telling : PySem.W.kitOne K (.ref C_DoingAgain) (.ref C_Telling) = some false)
    (is_DoingAgain_Telling_Clearing : PySem.W.kitAny K (.ref C_DoingAgain) [.ref C_Telling, .ref C_Clearing] = some false)
    (fin : ∀ A D, Txt K mg A D → A.f_answers = fa → Gl) : Gl := by
  have e := hfa.symm.trans (PySem.W.mg_of X G a_answers)
  have e2 : f_answers = fa := by
    injection e with e
    injection e with e
    exact e.symm
  exact fin ⟨C_Put, C_Telling, C_Clearing, C_Adding, C_TakingBack, C_DoingAgain, C_Deed, C_Desk, C_Letter, C_House, C_Outline, f_Put_init, f_Telling_init, f_Clearing_init, f_Adding_init, f_TakingBack_init, f_DoingAgain_init, f_Deed_init, f_stamp, f_is_change, f_is_in_reach, f_has_seen, f_tellings_of, f_is_about, f_is_seen, f_amount_of, f_holding, f_puts_under, f_spots_under, f_right_behind, f_has_right, f_Desk_init, f_Letter_init, f_House_init, f_House_start, f_has_desk, f_is_full, f_had, f_others_of, f_next_count, f_do_deed, f_places_of, f_can_be_put, f_is_there, f_line_up, f_Outline_init, f_outline_of, f_refusal_about, f_row_of, f_is_by, f_things_in_row, f_within, f_ask_tree, f_ask_row, f_ask_line, f_ask_values, f_ask_amounts, f_ask_find, f_has_value, f_ask_same, f_counted, f_counted_pairs, f_begin, f_make, f_move, f_can_move, f_put_behind, f_tell, f_clear_field, f_add_amount, f_less_amount, f_do_to_thing, f_refusal_to_thing, f_forget, f_ask_kept, f_kept_deeds, f_ripe_deeds, f_settled_count, f_is_sure_of_all, f_send, f_written, f_unsure, f_comes, f_hear, f_greater_of_each, f_back, f_undo, f_redo, f_taken_last, f_is_own_change, f_numbers_held, f_is_too_late, f_answers, f_answers_of, f_answer_of, f_answer_of_change, f_answer_of_taking, f_answer_of_keeping, f_answer_of_question, S_SIZES⟩
    ⟨PySem.W.fnOf "__init__" "Put.__init__" (defArgs s_Put_init) (defBody s_Put_init) (defScope s_Put_init) .none kV_Put_init dc_Put_init pm_Put_init an_Put_init cd_Put_init ct_Put_init, PySem.W.fnOf "__init__" "Telling.__init__" (defArgs s_Telling_init) (defBody s_Telling_init) (defScope s_Telling_init) .none kV_Telling_init dc_Telling_init pm_Telling_init an_Telling_init cd_Telling_init ct_Telling_init, PySem.W.fnOf "__init__" "Clearing.__init__" (defArgs s_Clearing_init) (defBody s_Clearing_init) (defScope s_Clearing_init) .none kV_Clearing_init dc_Clearing_init pm_Clearing_init an_Clearing_init cd_Clearing_init ct_Clearing_init, PySem.W.fnOf "__init__" "Adding.__init__" (defArgs s_Adding_init) (defBody s_Adding_init) (defScope s_Adding_init) .none kV_Adding_init dc_Adding_init pm_Adding_init an_Adding_init cd_Adding_init ct_Adding_init, PySem.W.fnOf "__init__" "TakingBack.__init__" (defArgs s_TakingBack_init) (defBody s_TakingBack_init) (defScope s_TakingBack_init) .none kV_TakingBack_init dc_TakingBack_init pm_TakingBack_init an_TakingBack_init cd_TakingBack_init ct_TakingBack_init, PySem.W.fnOf "__init__" "DoingAgain.__init__" (defArgs s_DoingAgain_init) (defBody s_DoingAgain_init) (defScope s_DoingAgain_init) .none kV_DoingAgain_init dc_DoingAgain_init pm_DoingAgain_init an_DoingAgain_init cd_DoingAgain_init ct_DoingAgain_init, PySem.W.fnOf "__init__" "Deed.__init__" (defArgs s_Deed_init) (defBody s_Deed_init) (defScope s_Deed_init) .none kV_Deed_init dc_Deed_init pm_Deed_init an_Deed_init cd_Deed_init ct_Deed_init, PySem.W.fnOf "stamp" "stamp" (defArgs s_stamp) (defBody s_stamp) (defScope s_stamp) .none kV_stamp dc_stamp pm_stamp an_stamp cd_stamp ct_stamp, PySem.W.fnOf "is_change" "is_change" (defArgs s_is_change) (defBody s_is_change) (defScope s_is_change) .none kV_is_change dc_is_change pm_is_change an_is_change cd_is_change ct_is_change, PySem.W.fnOf "is_in_reach" "is_in_reach" (defArgs s_is_in_reach) (defBody s_is_in_reach) (defScope s_is_in_reach) .none kV_is_in_reach dc_is_in_reach pm_is_in_reach an_is_in_reach cd_is_in_reach ct_is_in_reach, PySem.W.fnOf "has_seen" "has_seen" (defArgs s_has_seen) (defBody s_has_seen) (defScope s_has_seen) .none kV_has_seen dc_has_seen pm_has_seen an_has_seen cd_has_seen ct_has_seen, PySem.W.fnOf "tellings_of" "tellings_of" (defArgs s_tellings_of) (defBody s_tellings_of) (defScope s_tellings_of) .none kV_tellings_of dc_tellings_of pm_tellings_of an_tellings_of cd_tellings_of ct_tellings_of, PySem.W.fnOf "is_about" "is_about" (defArgs s_is_about) (defBody s_is_about) (defScope s_is_about) .none kV_is_about dc_is_about pm_is_about an_is_about cd_is_about ct_is_about, PySem.W.fnOf "is_seen" "is_seen" (defArgs s_is_seen) (defBody s_is_seen) (defScope s_is_seen) .none kV_is_seen dc_is_seen pm_is_seen an_is_seen cd_is_seen ct_is_seen, PySem.W.fnOf "amount_of" "amount_of" (defArgs s_amount_of) (defBody s_amount_of) (defScope s_amount_of) .none kV_amount_of dc_amount_of pm_amount_of an_amount_of cd_amount_of ct_amount_of, PySem.W.fnOf "holding" "holding" (defArgs s_holding) (defBody s_holding) (defScope s_holding) .none kV_holding dc_holding pm_holding an_holding cd_holding ct_holding, PySem.W.fnOf "puts_under" "puts_under" (defArgs s_puts_under) (defBody s_puts_under) (defScope s_puts_under) .none kV_puts_under dc_puts_under pm_puts_under an_puts_under cd_puts_under ct_puts_under, PySem.W.fnOf "spots_under" "spots_under" (defArgs s_spots_under) (defBody s_spots_under) (defScope s_spots_under) .none kV_spots_under dc_spots_under pm_spots_under an_spots_under cd_spots_under ct_spots_under, PySem.W.fnOf "right_behind" "right_behind" (defArgs s_right_behind) (defBody s_right_behind) (defScope s_right_behind) .none kV_right_behind dc_right_behind pm_right_behind an_right_behind cd_right_behind ct_right_behind, PySem.W.fnOf "has_right" "has_right" (defArgs s_has_right) (defBody s_has_right) (defScope s_has_right) .none kV_has_right dc_has_right pm_has_right an_has_right cd_has_right ct_has_right, PySem.W.fnOf "__init__" "Desk.__init__" (defArgs s_Desk_init) (defBody s_Desk_init) (defScope s_Desk_init) .none kV_Desk_init dc_Desk_init pm_Desk_init an_Desk_init cd_Desk_init ct_Desk_init, PySem.W.fnOf "__init__" "Letter.__init__" (defArgs s_Letter_init) (defBody s_Letter_init) (defScope s_Letter_init) .none kV_Letter_init dc_Letter_init pm_Letter_init an_Letter_init cd_Letter_init ct_Letter_init, PySem.W.fnOf "__init__" "House.__init__" (defArgs s_House_init) (defBody s_House_init) (defScope s_House_init) .none kV_House_init dc_House_init pm_House_init an_House_init cd_House_init ct_House_init, PySem.W.fnOf "start" "House.start" (defArgs s_House_start) (defBody s_House_start) (defScope s_House_start) .none kV_House_start dc_House_start pm_House_start an_House_start cd_House_start ct_House_start, PySem.W.fnOf "has_desk" "has_desk" (defArgs s_has_desk) (defBody s_has_desk) (defScope s_has_desk) .none kV_has_desk dc_has_desk pm_has_desk an_has_desk cd_has_desk ct_has_desk, PySem.W.fnOf "is_full" "is_full" (defArgs s_is_full) (defBody s_is_full) (defScope s_is_full) .none kV_is_full dc_is_full pm_is_full an_is_full cd_is_full ct_is_full, PySem.W.fnOf "had" "had" (defArgs s_had) (defBody s_had) (defScope s_had) .none kV_had dc_had pm_had an_had cd_had ct_had, PySem.W.fnOf "others_of" "others_of" (defArgs s_others_of) (defBody s_others_of) (defScope s_others_of) .none kV_others_of dc_others_of pm_others_of an_others_of cd_others_of ct_others_of, PySem.W.fnOf "next_count" "next_count" (defArgs s_next_count) (defBody s_next_count) (defScope s_next_count) .none kV_next_count dc_next_count pm_next_count an_next_count cd_next_count ct_next_count, PySem.W.fnOf "do_deed" "do_deed" (defArgs s_do_deed) (defBody s_do_deed) (defScope s_do_deed) .none kV_do_deed dc_do_deed pm_do_deed an_do_deed cd_do_deed ct_do_deed, PySem.W.fnOf "places_of" "places_of" (defArgs s_places_of) (defBody s_places_of) (defScope s_places_of) .none kV_places_of dc_places_of pm_places_of an_places_of cd_places_of ct_places_of, PySem.W.fnOf "can_be_put" "can_be_put" (defArgs s_can_be_put) (defBody s_can_be_put) (defScope s_can_be_put) .none kV_can_be_put dc_can_be_put pm_can_be_put an_can_be_put cd_can_be_put ct_can_be_put, PySem.W.fnOf "is_there" "is_there" (defArgs s_is_there) (defBody s_is_there) (defScope s_is_there) .none kV_is_there dc_is_there pm_is_there an_is_there cd_is_there ct_is_there, PySem.W.fnOf "line_up" "line_up" (defArgs s_line_up) (defBody s_line_up) (defScope s_line_up) .none kV_line_up dc_line_up pm_line_up an_line_up cd_line_up ct_line_up, PySem.W.fnOf "__init__" "Outline.__init__" (defArgs s_Outline_init) (defBody s_Outline_init) (defScope s_Outline_init) .none kV_Outline_init dc_Outline_init pm_Outline_init an_Outline_init cd_Outline_init ct_Outline_init, PySem.W.fnOf "outline_of" "outline_of" (defArgs s_outline_of) (defBody s_outline_of) (defScope s_outline_of) .none kV_outline_of dc_outline_of pm_outline_of an_outline_of cd_outline_of ct_outline_of, PySem.W.fnOf "refusal_about" "refusal_about" (defArgs s_refusal_about) (defBody s_refusal_about) (defScope s_refusal_about) .none kV_refusal_about dc_refusal_about pm_refusal_about an_refusal_about cd_refusal_about ct_refusal_about, PySem.W.fnOf "row_of" "row_of" (defArgs s_row_of) (defBody s_row_of) (defScope s_row_of) .none kV_row_of dc_row_of pm_row_of an_row_of cd_row_of ct_row_of, PySem.W.fnOf "is_by" "is_by" (defArgs s_is_by) (defBody s_is_by) (defScope s_is_by) .none kV_is_by dc_is_by pm_is_by an_is_by cd_is_by ct_is_by, PySem.W.fnOf "things_in_row" "things_in_row" (defArgs s_things_in_row) (defBody s_things_in_row) (defScope s_things_in_row) .none kV_things_in_row dc_things_in_row pm_things_in_row an_things_in_row cd_things_in_row ct_things_in_row, PySem.W.fnOf "within" "within" (defArgs s_within) (defBody s_within) (defScope s_within) .none kV_within dc_within pm_within an_within cd_within ct_within, PySem.W.fnOf "ask_tree" "ask_tree" (defArgs s_ask_tree) (defBody s_ask_tree) (defScope s_ask_tree) .none kV_ask_tree dc_ask_tree pm_ask_tree an_ask_tree cd_ask_tree ct_ask_tree, PySem.W.fnOf "ask_row" "ask_row" (defArgs s_ask_row) (defBody s_ask_row) (defScope s_ask_row) .none kV_ask_row dc_ask_row pm_ask_row an_ask_row cd_ask_row ct_ask_row, PySem.W.fnOf "ask_line" "ask_line" (defArgs s_ask_line) (defBody s_ask_line) (defScope s_ask_line) .none kV_ask_line dc_ask_line pm_ask_line an_ask_line cd_ask_line ct_ask_line, PySem.W.fnOf "ask_values" "ask_values" (defArgs s_ask_values) (defBody s_ask_values) (defScope s_ask_values) .none kV_ask_values dc_ask_values pm_ask_values an_ask_values cd_ask_values ct_ask_values, PySem.W.fnOf "ask_amounts" "ask_amounts" (defArgs s_ask_amounts) (defBody s_ask_amounts) (defScope s_ask_amounts) .none kV_ask_amounts dc_ask_amounts pm_ask_amounts an_ask_amounts cd_ask_amounts ct_ask_amounts, PySem.W.fnOf "ask_find" "ask_find" (defArgs s_ask_find) (defBody s_ask_find) (defScope s_ask_find) .none kV_ask_find dc_ask_find pm_ask_find an_ask_find cd_ask_find ct_ask_find, PySem.W.fnOf "has_value" "has_value" (defArgs s_has_value) (defBody s_has_value) (defScope s_has_value) .none kV_has_value dc_has_value pm_has_value an_has_value cd_has_value ct_has_value, PySem.W.fnOf "ask_same" "ask_same" (defArgs s_ask_same) (defBody s_ask_same) (defScope s_ask_same) .none kV_ask_same dc_ask_same pm_ask_same an_ask_same cd_ask_same ct_ask_same, PySem.W.fnOf "counted" "counted" (defArgs s_counted) (defBody s_counted) (defScope s_counted) .none kV_counted dc_counted pm_counted an_counted cd_counted ct_counted, PySem.W.fnOf "counted_pairs" "counted_pairs" (defArgs s_counted_pairs) (defBody s_counted_pairs) (defScope s_counted_pairs) .none kV_counted_pairs dc_counted_pairs pm_counted_pairs an_counted_pairs cd_counted_pairs ct_counted_pairs, PySem.W.fnOf "begin" "begin" (defArgs s_begin) (defBody s_begin) (defScope s_begin) .none kV_begin dc_begin pm_begin an_begin cd_begin ct_begin, PySem.W.fnOf "make" "make" (defArgs s_make) (defBody s_make) (defScope s_make) .none kV_make dc_make pm_make an_make cd_make ct_make, PySem.W.fnOf "move" "move" (defArgs s_move) (defBody s_move) (defScope s_move) .none kV_move dc_move pm_move an_move cd_move ct_move, PySem.W.fnOf "can_move" "can_move" (defArgs s_can_move) (defBody s_can_move) (defScope s_can_move) .none kV_can_move dc_can_move pm_can_move an_can_move cd_can_move ct_can_move, PySem.W.fnOf "put_behind" "put_behind" (defArgs s_put_behind) (defBody s_put_behind) (defScope s_put_behind) .none kV_put_behind dc_put_behind pm_put_behind an_put_behind cd_put_behind ct_put_behind, PySem.W.fnOf "tell" "tell" (defArgs s_tell) (defBody s_tell) (defScope s_tell) .none kV_tell dc_tell pm_tell an_tell cd_tell ct_tell, PySem.W.fnOf "clear_field" "clear_field" (defArgs s_clear_field) (defBody s_clear_field) (defScope s_clear_field) .none kV_clear_field dc_clear_field pm_clear_field an_clear_field cd_clear_field ct_clear_field, PySem.W.fnOf "add_amount" "add_amount" (defArgs s_add_amount) (defBody s_add_amount) (defScope s_add_amount) .none kV_add_amount dc_add_amount pm_add_amount an_add_amount cd_add_amount ct_add_amount, PySem.W.fnOf "less_amount" "less_amount" (defArgs s_less_amount) (defBody s_less_amount) (defScope s_less_amount) .none kV_less_amount dc_less_amount pm_less_amount an_less_amount cd_less_amount ct_less_amount, PySem.W.fnOf "do_to_thing" "do_to_thing" (defArgs s_do_to_thing) (defBody s_do_to_thing) (defScope s_do_to_thing) .none kV_do_to_thing dc_do_to_thing pm_do_to_thing an_do_to_thing cd_do_to_thing ct_do_to_thing, PySem.W.fnOf "refusal_to_thing" "refusal_to_thing" (defArgs s_refusal_to_thing) (defBody s_refusal_to_thing) (defScope s_refusal_to_thing) .none kV_refusal_to_thing dc_refusal_to_thing pm_refusal_to_thing an_refusal_to_thing cd_refusal_to_thing ct_refusal_to_thing, PySem.W.fnOf "forget" "forget" (defArgs s_forget) (defBody s_forget) (defScope s_forget) .none kV_forget dc_forget pm_forget an_forget cd_forget ct_forget, PySem.W.fnOf "ask_kept" "ask_kept" (defArgs s_ask_kept) (defBody s_ask_kept) (defScope s_ask_kept) .none kV_ask_kept dc_ask_kept pm_ask_kept an_ask_kept cd_ask_kept ct_ask_kept, PySem.W.fnOf "kept_deeds" "kept_deeds" (defArgs s_kept_deeds) (defBody s_kept_deeds) (defScope s_kept_deeds) .none kV_kept_deeds dc_kept_deeds pm_kept_deeds an_kept_deeds cd_kept_deeds ct_kept_deeds, PySem.W.fnOf "ripe_deeds" "ripe_deeds" (defArgs s_ripe_deeds) (defBody s_ripe_deeds) (defScope s_ripe_deeds) .none kV_ripe_deeds dc_ripe_deeds pm_ripe_deeds an_ripe_deeds cd_ripe_deeds ct_ripe_deeds, PySem.W.fnOf "settled_count" "settled_count" (defArgs s_settled_count) (defBody s_settled_count) (defScope s_settled_count) .none kV_settled_count dc_settled_count pm_settled_count an_settled_count cd_settled_count ct_settled_count, PySem.W.fnOf "is_sure_of_all" "is_sure_of_all" (defArgs s_is_sure_of_all) (defBody s_is_sure_of_all) (defScope s_is_sure_of_all) .none kV_is_sure_of_all dc_is_sure_of_all pm_is_sure_of_all an_is_sure_of_all cd_is_sure_of_all ct_is_sure_of_all, PySem.W.fnOf "send" "send" (defArgs s_send) (defBody s_send) (defScope s_send) .none kV_send dc_send pm_send an_send cd_send ct_send, PySem.W.fnOf "written" "written" (defArgs s_written) (defBody s_written) (defScope s_written) .none kV_written dc_written pm_written an_written cd_written ct_written, PySem.W.fnOf "unsure" "unsure" (defArgs s_unsure) (defBody s_unsure) (defScope s_unsure) .none kV_unsure dc_unsure pm_unsure an_unsure cd_unsure ct_unsure, PySem.W.fnOf "comes" "comes" (defArgs s_comes) (defBody s_comes) (defScope s_comes) .none kV_comes dc_comes pm_comes an_comes cd_comes ct_comes, PySem.W.fnOf "hear" "hear" (defArgs s_hear) (defBody s_hear) (defScope s_hear) .none kV_hear dc_hear pm_hear an_hear cd_hear ct_hear, PySem.W.fnOf "greater_of_each" "greater_of_each" (defArgs s_greater_of_each) (defBody s_greater_of_each) (defScope s_greater_of_each) .none kV_greater_of_each dc_greater_of_each pm_greater_of_each an_greater_of_each cd_greater_of_each ct_greater_of_each, PySem.W.fnOf "back" "back" (defArgs s_back) (defBody s_back) (defScope s_back) .none kV_back dc_back pm_back an_back cd_back ct_back, PySem.W.fnOf "undo" "undo" (defArgs s_undo) (defBody s_undo) (defScope s_undo) .none kV_undo dc_undo pm_undo an_undo cd_undo ct_undo, PySem.W.fnOf "redo" "redo" (defArgs s_redo) (defBody s_redo) (defScope s_redo) .none kV_redo dc_redo pm_redo an_redo cd_redo ct_redo, PySem.W.fnOf "taken_last" "taken_last" (defArgs s_taken_last) (defBody s_taken_last) (defScope s_taken_last) .none kV_taken_last dc_taken_last pm_taken_last an_taken_last cd_taken_last ct_taken_last, PySem.W.fnOf "is_own_change" "is_own_change" (defArgs s_is_own_change) (defBody s_is_own_change) (defScope s_is_own_change) .none kV_is_own_change dc_is_own_change pm_is_own_change an_is_own_change cd_is_own_change ct_is_own_change, PySem.W.fnOf "numbers_held" "numbers_held" (defArgs s_numbers_held) (defBody s_numbers_held) (defScope s_numbers_held) .none kV_numbers_held dc_numbers_held pm_numbers_held an_numbers_held cd_numbers_held ct_numbers_held, PySem.W.fnOf "is_too_late" "is_too_late" (defArgs s_is_too_late) (defBody s_is_too_late) (defScope s_is_too_late) .none kV_is_too_late dc_is_too_late pm_is_too_late an_is_too_late cd_is_too_late ct_is_too_late, PySem.W.fnOf "answers" "answers" (defArgs s_answers) (defBody s_answers) (defScope s_answers) .none kV_answers dc_answers pm_answers an_answers cd_answers ct_answers, PySem.W.fnOf "answers_of" "answers_of" (defArgs s_answers_of) (defBody s_answers_of) (defScope s_answers_of) .none kV_answers_of dc_answers_of pm_answers_of an_answers_of cd_answers_of ct_answers_of, PySem.W.fnOf "answer_of" "answer_of" (defArgs s_answer_of) (defBody s_answer_of) (defScope s_answer_of) .none kV_answer_of dc_answer_of pm_answer_of an_answer_of cd_answer_of ct_answer_of, PySem.W.fnOf "answer_of_change" "answer_of_change" (defArgs s_answer_of_change) (defBody s_answer_of_change) (defScope s_answer_of_change) .none kV_answer_of_change dc_answer_of_change pm_answer_of_change an_answer_of_change cd_answer_of_change ct_answer_of_change, PySem.W.fnOf "answer_of_taking" "answer_of_taking" (defArgs s_answer_of_taking) (defBody s_answer_of_taking) (defScope s_answer_of_taking) .none kV_answer_of_taking dc_answer_of_taking pm_answer_of_taking an_answer_of_taking cd_answer_of_taking ct_answer_of_taking, PySem.W.fnOf "answer_of_keeping" "answer_of_keeping" (defArgs s_answer_of_keeping) (defBody s_answer_of_keeping) (defScope s_answer_of_keeping) .none kV_answer_of_keeping dc_answer_of_keeping pm_answer_of_keeping an_answer_of_keeping cd_answer_of_keeping ct_answer_of_keeping, PySem.W.fnOf "answer_of_question" "answer_of_question" (defArgs s_answer_of_question) (defBody s_answer_of_question) (defScope s_answer_of_question) .none kV_answer_of_question dc_answer_of_question pm_answer_of_question an_answer_of_question cd_answer_of_question ct_answer_of_question⟩
    { n_all := PySem.W.mg_none_of X G z_all,
      n_any := PySem.W.mg_none_of X G z_any,
      n_isinstance := PySem.W.mg_none_of X G z_isinstance,
      n_len := PySem.W.mg_none_of X G z_len,
      n_list := PySem.W.mg_none_of X G z_list,
      n_max := PySem.W.mg_none_of X G z_max,
      n_min := PySem.W.mg_none_of X G z_min,
      n_range := PySem.W.mg_none_of X G z_range,
      n_reversed := PySem.W.mg_none_of X G z_reversed,
      n_sorted := PySem.W.mg_none_of X G z_sorted,
      n_sum := PySem.W.mg_none_of X G z_sum,
      g_LEFT := ⟨_, PySem.W.mg_of X G g_LEFT⟩,
      g_RIGHT := ⟨_, PySem.W.mg_of X G g_RIGHT⟩,
      g_BEGINNING := ⟨_, PySem.W.mg_of X G g_BEGINNING⟩,
      g_REACH := ⟨_, PySem.W.mg_of X G g_REACH⟩,
      g_LAST_FIELD := ⟨_, PySem.W.mg_of X G g_LAST_FIELD⟩,
      g_NOT_REFUSED := ⟨_, PySem.W.mg_of X G g_NOT_REFUSED⟩,
      g_WRONG := ⟨_, PySem.W.mg_of X G g_WRONG⟩,
      g_NO_DESK := ⟨_, PySem.W.mg_of X G g_NO_DESK⟩,
      g_NO_LETTER := ⟨_, PySem.W.mg_of X G g_NO_LETTER⟩,
      g_NOT_THERE := ⟨_, PySem.W.mg_of X G g_NOT_THERE⟩,
      g_TOO_LATE := ⟨_, PySem.W.mg_of X G g_TOO_LATE⟩,
      g_FULL := ⟨_, PySem.W.mg_of X G g_FULL⟩,
      g_WITHIN := ⟨_, PySem.W.mg_of X G g_WITHIN⟩,
      g_MOST_DEEDS := ⟨_, PySem.W.mg_of X G g_MOST_DEEDS⟩,
      g_FIRST_MADE := ⟨_, PySem.W.mg_of X G g_FIRST_MADE⟩,
      g_ROOT := ⟨_, PySem.W.mg_of X G g_ROOT⟩,
      g_BIN := ⟨_, PySem.W.mg_of X G g_BIN⟩,
      g_MOST_DESKS := ⟨_, PySem.W.mg_of X G g_MOST_DESKS⟩,
      g_GREATEST_TOLD := ⟨_, PySem.W.mg_of X G g_GREATEST_TOLD⟩,
      g_MOST_LETTERS := ⟨_, PySem.W.mg_of X G g_MOST_LETTERS⟩,
      g_BEGIN := ⟨_, PySem.W.mg_of X G g_BEGIN⟩,
      g_MAKE := ⟨_, PySem.W.mg_of X G g_MAKE⟩,
      g_MOVE := ⟨_, PySem.W.mg_of X G g_MOVE⟩,
      g_TELL := ⟨_, PySem.W.mg_of X G g_TELL⟩,
      g_CLEAR := ⟨_, PySem.W.mg_of X G g_CLEAR⟩,
      g_ADD := ⟨_, PySem.W.mg_of X G g_ADD⟩,
      g_LESS := ⟨_, PySem.W.mg_of X G g_LESS⟩,
      g_BACK := ⟨_, PySem.W.mg_of X G g_BACK⟩,
      g_UNDO := ⟨_, PySem.W.mg_of X G g_UNDO⟩,
      g_REDO := ⟨_, PySem.W.mg_of X G g_REDO⟩,
      g_SEND := ⟨_, PySem.W.mg_of X G g_SEND⟩,
      g_COMES := ⟨_, PySem.W.mg_of X G g_COMES⟩,
      g_FORGET := ⟨_, PySem.W.mg_of X G g_FORGET⟩,
      g_TREE := ⟨_, PySem.W.mg_of X G g_TREE⟩,
      g_ROW := ⟨_, PySem.W.mg_of X G g_ROW⟩,
      g_LINE := ⟨_, PySem.W.mg_of X G g_LINE⟩,
      g_VALUES := ⟨_, PySem.W.mg_of X G g_VALUES⟩,
      g_AMOUNTS := ⟨_, PySem.W.mg_of X G g_AMOUNTS⟩,
      g_FIND := ⟨_, PySem.W.mg_of X G g_FIND⟩,
      g_KEPT := ⟨_, PySem.W.mg_of X G g_KEPT⟩,
      c_SIZES := PySem.W.mg_of X G c_SIZES,
      tb_SIZES := ⟨[(1, st_SIZES_0, 1, su_SIZES_0), (2, st_SIZES_1, 3, su_SIZES_1), (3, st_SIZES_2, 4, su_SIZES_2), (4, st_SIZES_3, 4, su_SIZES_3), (5, st_SIZES_4, 3, su_SIZES_4), (6, st_SIZES_5, 3, su_SIZES_5), (7, st_SIZES_6, 3, su_SIZES_6), (8, st_SIZES_7, 2, su_SIZES_7), (9, st_SIZES_8, 1, su_SIZES_8), (10, st_SIZES_9, 1, su_SIZES_9), (11, st_SIZES_10, 2, su_SIZES_10), (12, st_SIZES_11, 1, su_SIZES_11), (13, st_SIZES_12, 1, su_SIZES_12), (14, st_SIZES_13, 2, su_SIZES_13), (15, st_SIZES_14, 2, su_SIZES_14), (16, st_SIZES_15, 2, su_SIZES_15), (17, st_SIZES_16, 3, su_SIZES_16), (18, st_SIZES_17, 2, su_SIZES_17), (19, st_SIZES_18, 3, su_SIZES_18), (20, st_SIZES_19, 1, su_SIZES_19), (21, st_SIZES_20, 2, su_SIZES_20)], sn_SIZES, t_SIZES, by decide +kernel, by decide +kernel, rfl⟩,
      c_Put := PySem.W.mg_of X G c_Put,
      cl_Put := ⟨pg_Put, hd_Put, po_Put, sa_Put⟩,
      na_Put_thing := na_Put_thing,
      na_Put_under := na_Put_under,
      na_Put_at := na_Put_at,
      na_Put_side := na_Put_side,
      c_Telling := PySem.W.mg_of X G c_Telling,
      cl_Telling := ⟨pg_Telling, hd_Telling, po_Telling, sa_Telling⟩,
      na_Telling_thing := na_Telling_thing,
      na_Telling_field := na_Telling_field,
      na_Telling_value := na_Telling_value,
      c_Clearing := PySem.W.mg_of X G c_Clearing,
      cl_Clearing := ⟨pg_Clearing, hd_Clearing, po_Clearing, sa_Clearing⟩,
      na_Clearing_thing := na_Clearing_thing,
      na_Clearing_field := na_Clearing_field,
      c_Adding := PySem.W.mg_of X G c_Adding,
      cl_Adding := ⟨pg_Adding, hd_Adding, po_Adding, sa_Adding⟩,
      na_Adding_thing := na_Adding_thing,
      na_Adding_amount := na_Adding_amount,
      c_TakingBack := PySem.W.mg_of X G c_TakingBack,
      cl_TakingBack := ⟨pg_TakingBack, hd_TakingBack, po_TakingBack, sa_TakingBack⟩,
      na_TakingBack_deed := na_TakingBack_deed,
      c_DoingAgain := PySem.W.mg_of X G c_DoingAgain,
      cl_DoingAgain := ⟨pg_DoingAgain, hd_DoingAgain, po_DoingAgain, sa_DoingAgain⟩,
      na_DoingAgain_deed := na_DoingAgain_deed,
      c_Deed := PySem.W.mg_of X G c_Deed,
      cl_Deed := ⟨pg_Deed, hd_Deed, po_Deed, sa_Deed⟩,
      na_Deed_number := na_Deed_number,
      na_Deed_desk := na_Deed_desk,
      na_Deed_rank := na_Deed_rank,
      na_Deed_count := na_Deed_count,
      na_Deed_saw := na_Deed_saw,
      na_Deed_act := na_Deed_act,
      c_Desk := PySem.W.mg_of X G c_Desk,
      cl_Desk := ⟨pg_Desk, hd_Desk, po_Desk, sa_Desk⟩,
      na_Desk_greatest := na_Desk_greatest,
      na_Desk_counts := na_Desk_counts,
      na_Desk_sure := na_Desk_sure,
      na_Desk_heard := na_Desk_heard,
      na_Desk_forgotten := na_Desk_forgotten,
      c_Letter := PySem.W.mg_of X G c_Letter,
      cl_Letter := ⟨pg_Letter, hd_Letter, po_Letter, sa_Letter⟩,
      na_Letter_source := na_Letter_source,
      na_Letter_target := na_Letter_target,
      na_Letter_counts := na_Letter_counts,
      na_Letter_greatest := na_Letter_greatest,
      na_Letter_deeds := na_Letter_deeds,
      c_House := PySem.W.mg_of X G c_House,
      cl_House := ⟨pg_House, hd_House, po_House, sa_House⟩,
      na_House_desks := na_House_desks,
      na_House_deeds := na_House_deeds,
      na_House_letters := na_House_letters,
      na_House_next_thing := na_House_next_thing,
      c_Outline := PySem.W.mg_of X G c_Outline,
      cl_Outline := ⟨pg_Outline, hd_Outline, po_Outline, sa_Outline⟩,
      na_Outline_deeds := na_Outline_deeds,
      na_Outline_held := na_Outline_held,
      na_Outline_places := na_Outline_places,
      f_Put_init := fun_mk l_Put_init e_Put_init k_Put_init,
      b_Put_init := (fun_mk (st := s_Put_init) l_Put_init e_Put_init k_Put_init).binds fun _ _ _ _ _ _ us hl => match us, hl with | [_, _, _, _, _], _ => rfl,
      mk_Put := ⟨mk_Put, a_Put_init, i_Put_init, kc_Put⟩,
      f_Telling_init := fun_mk l_Telling_init e_Telling_init k_Telling_init,
      b_Telling_init := (fun_mk (st := s_Telling_init) l_Telling_init e_Telling_init k_Telling_init).binds fun _ _ _ _ _ _ us hl => match us, hl with | [_, _, _, _], _ => rfl,
      mk_Telling := ⟨mk_Telling, a_Telling_init, i_Telling_init, kc_Telling⟩,
      f_Clearing_init := fun_mk l_Clearing_init e_Clearing_init k_Clearing_init,
      b_Clearing_init := (fun_mk (st := s_Clearing_init) l_Clearing_init e_Clearing_init k_Clearing_init).binds fun _ _ _ _ _ _ us hl => match us, hl with | [_, _, _], _ => rfl,
      mk_Clearing := ⟨mk_Clearing, a_Clearing_init, i_Clearing_init, kc_Clearing⟩,
      f_Adding_init := fun_mk l_Adding_init e_Adding_init k_Adding_init,
      b_Adding_init := (fun_mk (st := s_Adding_init) l_Adding_init e_Adding_init k_Adding_init).binds fun _ _ _ _ _ _ us hl => match us, hl with | [_, _, _], _ => rfl,
      mk_Adding := ⟨mk_Adding, a_Adding_init, i_Adding_init, kc_Adding⟩,
      f_TakingBack_init := fun_mk l_TakingBack_init e_TakingBack_init k_TakingBack_init,
      b_TakingBack_init := (fun_mk (st := s_TakingBack_init) l_TakingBack_init e_TakingBack_init k_TakingBack_init).binds fun _ _ _ _ _ _ us hl => match us, hl with | [_, _], _ => rfl,
      mk_TakingBack := ⟨mk_TakingBack, a_TakingBack_init, i_TakingBack_init, kc_TakingBack⟩,
      f_DoingAgain_init := fun_mk l_DoingAgain_init e_DoingAgain_init k_DoingAgain_init,
      b_DoingAgain_init := (fun_mk (st := s_DoingAgain_init) l_DoingAgain_init e_DoingAgain_init k_DoingAgain_init).binds fun _ _ _ _ _ _ us hl => match us, hl with | [_, _], _ => rfl,
      mk_DoingAgain := ⟨mk_DoingAgain, a_DoingAgain_init, i_DoingAgain_init, kc_DoingAgain⟩,
      f_Deed_init := fun_mk l_Deed_init e_Deed_init k_Deed_init,
      b_Deed_init := (fun_mk (st := s_Deed_init) l_Deed_init e_Deed_init k_Deed_init).binds fun _ _ _ _ _ _ us hl => match us, hl with | [_, _, _, _, _, _, _], _ => rfl,
      mk_Deed := ⟨mk_Deed, a_Deed_init, i_Deed_init, kc_Deed⟩,
      m_stamp := PySem.W.mg_of X G a_stamp,
      f_stamp := fun_mk l_stamp e_stamp k_stamp,
      b_stamp := (fun_mk (st := s_stamp) l_stamp e_stamp k_stamp).binds fun _ _ _ _ _ _ us hl => match us, hl with | [_], _ => rfl,
      m_is_change := PySem.W.mg_of X G a_is_change,
      f_is_change := fun_mk l_is_change e_is_change k_is_change,
      b_is_change := (fun_mk (st := s_is_change) l_is_change e_is_change k_is_change).binds fun _ _ _ _ _ _ us hl => match us, hl with | [_], _ => rfl,
      m_is_in_reach := PySem.W.mg_of X G a_is_in_reach,
      f_is_in_reach := fun_mk l_is_in_reach e_is_in_reach k_is_in_reach,
      b_is_in_reach := (fun_mk (st := s_is_in_reach) l_is_in_reach e_is_in_reach k_is_in_reach).binds fun _ _ _ _ _ _ us hl => match us, hl with | [_, _], _ => rfl,
      m_has_seen := PySem.W.mg_of X G a_has_seen,
      f_has_seen := fun_mk l_has_seen e_has_seen k_has_seen,
      b_has_seen := (fun_mk (st := s_has_seen) l_has_seen e_has_seen k_has_seen).binds fun _ _ _ _ _ _ us hl => match us, hl with | [_, _], _ => rfl,
      m_tellings_of := PySem.W.mg_of X G a_tellings_of,
      f_tellings_of := fun_mk l_tellings_of e_tellings_of k_tellings_of,
      b_tellings_of := (fun_mk (st := s_tellings_of) l_tellings_of e_tellings_of k_tellings_of).binds fun _ _ _ _ _ _ us hl => match us, hl with | [_, _, _], _ => rfl,
      m_is_about := PySem.W.mg_of X G a_is_about,
      f_is_about := fun_mk l_is_about e_is_about k_is_about,
      b_is_about := (fun_mk (st := s_is_about) l_is_about e_is_about k_is_about).binds fun _ _ _ _ _ _ us hl => match us, hl with | [_, _, _], _ => rfl,
      m_is_seen := PySem.W.mg_of X G a_is_seen,
      f_is_seen := fun_mk l_is_seen e_is_seen k_is_seen,
      b_is_seen := (fun_mk (st := s_is_seen) l_is_seen e_is_seen k_is_seen).binds fun _ _ _ _ _ _ us hl => match us, hl with | [_, _], _ => rfl,
      m_amount_of := PySem.W.mg_of X G a_amount_of,
      f_amount_of := fun_mk l_amount_of e_amount_of k_amount_of,
      b_amount_of := (fun_mk (st := s_amount_of) l_amount_of e_amount_of k_amount_of).binds fun _ _ _ _ _ _ us hl => match us, hl with | [_, _], _ => rfl,
      m_holding := PySem.W.mg_of X G a_holding,
      f_holding := fun_mk l_holding e_holding k_holding,
      b_holding := (fun_mk (st := s_holding) l_holding e_holding k_holding).binds fun _ _ _ _ _ _ us hl => match us, hl with | [_], _ => rfl,
      m_puts_under := PySem.W.mg_of X G a_puts_under,
      f_puts_under := fun_mk l_puts_under e_puts_under k_puts_under,
      b_puts_under := (fun_mk (st := s_puts_under) l_puts_under e_puts_under k_puts_under).binds fun _ _ _ _ _ _ us hl => match us, hl with | [_, _], _ => rfl,
      m_spots_under := PySem.W.mg_of X G a_spots_under,
      f_spots_under := fun_mk l_spots_under e_spots_under k_spots_under,
      b_spots_under := (fun_mk (st := s_spots_under) l_spots_under e_spots_under k_spots_under).binds fun _ _ _ _ _ _ us hl => match us, hl with | [_, _], _ => rfl,
      m_right_behind := PySem.W.mg_of X G a_right_behind,
      f_right_behind := fun_mk l_right_behind e_right_behind k_right_behind,
      b_right_behind := (fun_mk (st := s_right_behind) l_right_behind e_right_behind k_right_behind).binds fun _ _ _ _ _ _ us hl => match us, hl with | [_, _, _], _ => rfl,
      m_has_right := PySem.W.mg_of X G a_has_right,
      f_has_right := fun_mk l_has_right e_has_right k_has_right,
      b_has_right := (fun_mk (st := s_has_right) l_has_right e_has_right k_has_right).binds fun _ _ _ _ _ _ us hl => match us, hl with | [_, _, _], _ => rfl,
      f_Desk_init := fun_mk l_Desk_init e_Desk_init k_Desk_init,
      b_Desk_init := (fun_mk (st := s_Desk_init) l_Desk_init e_Desk_init k_Desk_init).binds fun _ _ _ _ _ _ us hl => match us, hl with | [_, _], _ => rfl,
      mk_Desk := ⟨mk_Desk, a_Desk_init, i_Desk_init, kc_Desk⟩,
      f_Letter_init := fun_mk l_Letter_init e_Letter_init k_Letter_init,
      b_Letter_init := (fun_mk (st := s_Letter_init) l_Letter_init e_Letter_init k_Letter_init).binds fun _ _ _ _ _ _ us hl => match us, hl with | [_, _, _, _, _, _], _ => rfl,
      mk_Letter := ⟨mk_Letter, a_Letter_init, i_Letter_init, kc_Letter⟩,
      f_House_init := fun_mk l_House_init e_House_init k_House_init,
      b_House_init := (fun_mk (st := s_House_init) l_House_init e_House_init k_House_init).binds fun _ _ _ _ _ _ us hl => match us, hl with | [_, _], _ => rfl,
      mk_House := ⟨mk_House, a_House_init, i_House_init, kc_House⟩,
      f_House_start := fun_mk l_House_start e_House_start k_House_start,
      b_House_start := (fun_mk (st := s_House_start) l_House_start e_House_start k_House_start).binds fun _ _ _ _ _ _ us hl => match us, hl with | [_, _], _ => rfl,
      mt_House_start := ⟨a_House_start, i_House_start, k_House_start⟩,
      m_has_desk := PySem.W.mg_of X G a_has_desk,
      f_has_desk := fun_mk l_has_desk e_has_desk k_has_desk,
      b_has_desk := (fun_mk (st := s_has_desk) l_has_desk e_has_desk k_has_desk).binds fun _ _ _ _ _ _ us hl => match us, hl with | [_, _], _ => rfl,
      m_is_full := PySem.W.mg_of X G a_is_full,
      f_is_full := fun_mk l_is_full e_is_full k_is_full,
      b_is_full := (fun_mk (st := s_is_full) l_is_full e_is_full k_is_full).binds fun _ _ _ _ _ _ us hl => match us, hl with | [_], _ => rfl,
      m_had := PySem.W.mg_of X G a_had,
      f_had := fun_mk l_had e_had k_had,
      b_had := (fun_mk (st := s_had) l_had e_had k_had).binds fun _ _ _ _ _ _ us hl => match us, hl with | [_, _], _ => rfl,
      m_others_of := PySem.W.mg_of X G a_others_of,
      f_others_of := fun_mk l_others_of e_others_of k_others_of,
      b_others_of := (fun_mk (st := s_others_of) l_others_of e_others_of k_others_of).binds fun _ _ _ _ _ _ us hl => match us, hl with | [_, _], _ => rfl,
      m_next_count := PySem.W.mg_of X G a_next_count,
      f_next_count := fun_mk l_next_count e_next_count k_next_count,
      b_next_count := (fun_mk (st := s_next_count) l_next_count e_next_count k_next_count).binds fun _ _ _ _ _ _ us hl => match us, hl with | [_, _], _ => rfl,
      m_do_deed := PySem.W.mg_of X G a_do_deed,
      f_do_deed := fun_mk l_do_deed e_do_deed k_do_deed,
      b_do_deed := (fun_mk (st := s_do_deed) l_do_deed e_do_deed k_do_deed).binds fun _ _ _ _ _ _ us hl => match us, hl with | [_, _, _], _ => rfl,
      m_places_of := PySem.W.mg_of X G a_places_of,
      f_places_of := fun_mk l_places_of e_places_of k_places_of,
      b_places_of := (fun_mk (st := s_places_of) l_places_of e_places_of k_places_of).binds fun _ _ _ _ _ _ us hl => match us, hl with | [_], _ => rfl,
      m_can_be_put := PySem.W.mg_of X G a_can_be_put,
      f_can_be_put := fun_mk l_can_be_put e_can_be_put k_can_be_put,
      b_can_be_put := (fun_mk (st := s_can_be_put) l_can_be_put e_can_be_put k_can_be_put).binds fun _ _ _ _ _ _ us hl => match us, hl with | [_, _, _], _ => rfl,
      m_is_there := PySem.W.mg_of X G a_is_there,
      f_is_there := fun_mk l_is_there e_is_there k_is_there,
      b_is_there := (fun_mk (st := s_is_there) l_is_there e_is_there k_is_there).binds fun _ _ _ _ _ _ us hl => match us, hl with | [_, _], _ => rfl,
      m_line_up := PySem.W.mg_of X G a_line_up,
      f_line_up := fun_mk l_line_up e_line_up k_line_up,
      b_line_up := (fun_mk (st := s_line_up) l_line_up e_line_up k_line_up).binds fun _ _ _ _ _ _ us hl => match us, hl with | [_, _], _ => rfl,
      f_Outline_init := fun_mk l_Outline_init e_Outline_init k_Outline_init,
      b_Outline_init := (fun_mk (st := s_Outline_init) l_Outline_init e_Outline_init k_Outline_init).binds fun _ _ _ _ _ _ us hl => match us, hl with | [_, _], _ => rfl,
      mk_Outline := ⟨mk_Outline, a_Outline_init, i_Outline_init, kc_Outline⟩,
      m_outline_of := PySem.W.mg_of X G a_outline_of,
      f_outline_of := fun_mk l_outline_of e_outline_of k_outline_of,
      b_outline_of := (fun_mk (st := s_outline_of) l_outline_of e_outline_of k_outline_of).binds fun _ _ _ _ _ _ us hl => match us, hl with | [_, _], _ => rfl,
      m_refusal_about := PySem.W.mg_of X G a_refusal_about,
      f_refusal_about := fun_mk l_refusal_about e_refusal_about k_refusal_about,
      b_refusal_about := (fun_mk (st := s_refusal_about) l_refusal_about e_refusal_about k_refusal_about).binds fun _ _ _ _ _ _ us hl => match us, hl with | [_, _, _], _ => rfl,
      m_row_of := PySem.W.mg_of X G a_row_of,
      f_row_of := fun_mk l_row_of e_row_of k_row_of,
      b_row_of := (fun_mk (st := s_row_of) l_row_of e_row_of k_row_of).binds fun _ _ _ _ _ _ us hl => match us, hl with | [_, _], _ => rfl,
      m_is_by := PySem.W.mg_of X G a_is_by,
      f_is_by := fun_mk l_is_by e_is_by k_is_by,
      b_is_by := (fun_mk (st := s_is_by) l_is_by e_is_by k_is_by).binds fun _ _ _ _ _ _ us hl => match us, hl with | [_, _], _ => rfl,
      m_things_in_row := PySem.W.mg_of X G a_things_in_row,
      f_things_in_row := fun_mk l_things_in_row e_things_in_row k_things_in_row,
      b_things_in_row := (fun_mk (st := s_things_in_row) l_things_in_row e_things_in_row k_things_in_row).binds fun _ _ _ _ _ _ us hl => match us, hl with | [_, _], _ => rfl,
      m_within := PySem.W.mg_of X G a_within,
      f_within := fun_mk l_within e_within k_within,
      b_within := (fun_mk (st := s_within) l_within e_within k_within).binds fun _ _ _ _ _ _ us hl => match us, hl with | [_, _], _ => rfl,
      m_ask_tree := PySem.W.mg_of X G a_ask_tree,
      f_ask_tree := fun_mk l_ask_tree e_ask_tree k_ask_tree,
      b_ask_tree := (fun_mk (st := s_ask_tree) l_ask_tree e_ask_tree k_ask_tree).binds fun _ _ _ _ _ _ us hl => match us, hl with | [_, _, _], _ => rfl,
      m_ask_row := PySem.W.mg_of X G a_ask_row,
      f_ask_row := fun_mk l_ask_row e_ask_row k_ask_row,
      b_ask_row := (fun_mk (st := s_ask_row) l_ask_row e_ask_row k_ask_row).binds fun _ _ _ _ _ _ us hl => match us, hl with | [_, _, _], _ => rfl,
      m_ask_line := PySem.W.mg_of X G a_ask_line,
      f_ask_line := fun_mk l_ask_line e_ask_line k_ask_line,
      b_ask_line := (fun_mk (st := s_ask_line) l_ask_line e_ask_line k_ask_line).binds fun _ _ _ _ _ _ us hl => match us, hl with | [_, _, _], _ => rfl,
      m_ask_values := PySem.W.mg_of X G a_ask_values,
      f_ask_values := fun_mk l_ask_values e_ask_values k_ask_values,
      b_ask_values := (fun_mk (st := s_ask_values) l_ask_values e_ask_values k_ask_values).binds fun _ _ _ _ _ _ us hl => match us, hl with | [_, _, _, _], _ => rfl,
      m_ask_amounts := PySem.W.mg_of X G a_ask_amounts,
      f_ask_amounts := fun_mk l_ask_amounts e_ask_amounts k_ask_amounts,
      b_ask_amounts := (fun_mk (st := s_ask_amounts) l_ask_amounts e_ask_amounts k_ask_amounts).binds fun _ _ _ _ _ _ us hl => match us, hl with | [_, _, _], _ => rfl,
      m_ask_find := PySem.W.mg_of X G a_ask_find,
      f_ask_find := fun_mk l_ask_find e_ask_find k_ask_find,
      b_ask_find := (fun_mk (st := s_ask_find) l_ask_find e_ask_find k_ask_find).binds fun _ _ _ _ _ _ us hl => match us, hl with | [_, _, _, _], _ => rfl,
      m_has_value := PySem.W.mg_of X G a_has_value,
      f_has_value := fun_mk l_has_value e_has_value k_has_value,
      b_has_value := (fun_mk (st := s_has_value) l_has_value e_has_value k_has_value).binds fun _ _ _ _ _ _ us hl => match us, hl with | [_, _, _, _], _ => rfl,
      m_ask_same := PySem.W.mg_of X G a_ask_same,
      f_ask_same := fun_mk l_ask_same e_ask_same k_ask_same,
      b_ask_same := (fun_mk (st := s_ask_same) l_ask_same e_ask_same k_ask_same).binds fun _ _ _ _ _ _ us hl => match us, hl with | [_, _, _], _ => rfl,
      m_counted := PySem.W.mg_of X G a_counted,
      f_counted := fun_mk l_counted e_counted k_counted,
      b_counted := (fun_mk (st := s_counted) l_counted e_counted k_counted).binds fun _ _ _ _ _ _ us hl => match us, hl with | [_], _ => rfl,
      m_counted_pairs := PySem.W.mg_of X G a_counted_pairs,
      f_counted_pairs := fun_mk l_counted_pairs e_counted_pairs k_counted_pairs,
      b_counted_pairs := (fun_mk (st := s_counted_pairs) l_counted_pairs e_counted_pairs k_counted_pairs).binds fun _ _ _ _ _ _ us hl => match us, hl with | [_], _ => rfl,
      m_begin := PySem.W.mg_of X G a_begin,
      f_begin := fun_mk l_begin e_begin k_begin,
      b_begin := (fun_mk (st := s_begin) l_begin e_begin k_begin).binds fun _ _ _ _ _ _ us hl => match us, hl with | [_, _], _ => rfl,
      m_make := PySem.W.mg_of X G a_make,
      f_make := fun_mk l_make e_make k_make,
      b_make := (fun_mk (st := s_make) l_make e_make k_make).binds fun _ _ _ _ _ _ us hl => match us, hl with | [_, _, _, _], _ => rfl,
      m_move := PySem.W.mg_of X G a_move,
      f_move := fun_mk l_move e_move k_move,
      b_move := (fun_mk (st := s_move) l_move e_move k_move).binds fun _ _ _ _ _ _ us hl => match us, hl with | [_, _, _, _, _], _ => rfl,
      m_can_move := PySem.W.mg_of X G a_can_move,
      f_can_move := fun_mk l_can_move e_can_move k_can_move,
      b_can_move := (fun_mk (st := s_can_move) l_can_move e_can_move k_can_move).binds fun _ _ _ _ _ _ us hl => match us, hl with | [_, _], _ => rfl,
      m_put_behind := PySem.W.mg_of X G a_put_behind,
      f_put_behind := fun_mk l_put_behind e_put_behind k_put_behind,
      b_put_behind := (fun_mk (st := s_put_behind) l_put_behind e_put_behind k_put_behind).binds fun _ _ _ _ _ _ us hl => match us, hl with | [_, _, _, _, _], _ => rfl,
      m_tell := PySem.W.mg_of X G a_tell,
      f_tell := fun_mk l_tell e_tell k_tell,
      b_tell := (fun_mk (st := s_tell) l_tell e_tell k_tell).binds fun _ _ _ _ _ _ us hl => match us, hl with | [_, _, _, _, _], _ => rfl,
      m_clear_field := PySem.W.mg_of X G a_clear_field,
      f_clear_field := fun_mk l_clear_field e_clear_field k_clear_field,
      b_clear_field := (fun_mk (st := s_clear_field) l_clear_field e_clear_field k_clear_field).binds fun _ _ _ _ _ _ us hl => match us, hl with | [_, _, _, _], _ => rfl,
      m_add_amount := PySem.W.mg_of X G a_add_amount,
      f_add_amount := fun_mk l_add_amount e_add_amount k_add_amount,
      b_add_amount := (fun_mk (st := s_add_amount) l_add_amount e_add_amount k_add_amount).binds fun _ _ _ _ _ _ us hl => match us, hl with | [_, _, _, _], _ => rfl,
      m_less_amount := PySem.W.mg_of X G a_less_amount,
      f_less_amount := fun_mk l_less_amount e_less_amount k_less_amount,
      b_less_amount := (fun_mk (st := s_less_amount) l_less_amount e_less_amount k_less_amount).binds fun _ _ _ _ _ _ us hl => match us, hl with | [_, _, _, _], _ => rfl,
      m_do_to_thing := PySem.W.mg_of X G a_do_to_thing,
      f_do_to_thing := fun_mk l_do_to_thing e_do_to_thing k_do_to_thing,
      b_do_to_thing := (fun_mk (st := s_do_to_thing) l_do_to_thing e_do_to_thing k_do_to_thing).binds fun _ _ _ _ _ _ us hl => match us, hl with | [_, _, _, _], _ => rfl,
      m_refusal_to_thing := PySem.W.mg_of X G a_refusal_to_thing,
      f_refusal_to_thing := fun_mk l_refusal_to_thing e_refusal_to_thing k_refusal_to_thing,
      b_refusal_to_thing := (fun_mk (st := s_refusal_to_thing) l_refusal_to_thing e_refusal_to_thing k_refusal_to_thing).binds fun _ _ _ _ _ _ us hl => match us, hl with | [_, _, _, _], _ => rfl,
      m_forget := PySem.W.mg_of X G a_forget,
      f_forget := fun_mk l_forget e_forget k_forget,
      b_forget := (fun_mk (st := s_forget) l_forget e_forget k_forget).binds fun _ _ _ _ _ _ us hl => match us, hl with | [_, _], _ => rfl,
      m_ask_kept := PySem.W.mg_of X G a_ask_kept,
      f_ask_kept := fun_mk l_ask_kept e_ask_kept k_ask_kept,
      b_ask_kept := (fun_mk (st := s_ask_kept) l_ask_kept e_ask_kept k_ask_kept).binds fun _ _ _ _ _ _ us hl => match us, hl with | [_, _], _ => rfl,
      m_kept_deeds := PySem.W.mg_of X G a_kept_deeds,
      f_kept_deeds := fun_mk l_kept_deeds e_kept_deeds k_kept_deeds,
      b_kept_deeds := (fun_mk (st := s_kept_deeds) l_kept_deeds e_kept_deeds k_kept_deeds).binds fun _ _ _ _ _ _ us hl => match us, hl with | [_, _], _ => rfl,
      m_ripe_deeds := PySem.W.mg_of X G a_ripe_deeds,
      f_ripe_deeds := fun_mk l_ripe_deeds e_ripe_deeds k_ripe_deeds,
      b_ripe_deeds := (fun_mk (st := s_ripe_deeds) l_ripe_deeds e_ripe_deeds k_ripe_deeds).binds fun _ _ _ _ _ _ us hl => match us, hl with | [_, _], _ => rfl,
      m_settled_count := PySem.W.mg_of X G a_settled_count,
      f_settled_count := fun_mk l_settled_count e_settled_count k_settled_count,
      b_settled_count := (fun_mk (st := s_settled_count) l_settled_count e_settled_count k_settled_count).binds fun _ _ _ _ _ _ us hl => match us, hl with | [_, _], _ => rfl,
      m_is_sure_of_all := PySem.W.mg_of X G a_is_sure_of_all,
      f_is_sure_of_all := fun_mk l_is_sure_of_all e_is_sure_of_all k_is_sure_of_all,
      b_is_sure_of_all := (fun_mk (st := s_is_sure_of_all) l_is_sure_of_all e_is_sure_of_all k_is_sure_of_all).binds fun _ _ _ _ _ _ us hl => match us, hl with | [_, _, _], _ => rfl,
      m_send := PySem.W.mg_of X G a_send,
      f_send := fun_mk l_send e_send k_send,
      b_send := (fun_mk (st := s_send) l_send e_send k_send).binds fun _ _ _ _ _ _ us hl => match us, hl with | [_, _, _], _ => rfl,
      m_written := PySem.W.mg_of X G a_written,
      f_written := fun_mk l_written e_written k_written,
      b_written := (fun_mk (st := s_written) l_written e_written k_written).binds fun _ _ _ _ _ _ us hl => match us, hl with | [_, _, _], _ => rfl,
      m_unsure := PySem.W.mg_of X G a_unsure,
      f_unsure := fun_mk l_unsure e_unsure k_unsure,
      b_unsure := (fun_mk (st := s_unsure) l_unsure e_unsure k_unsure).binds fun _ _ _ _ _ _ us hl => match us, hl with | [_, _, _], _ => rfl,
      m_comes := PySem.W.mg_of X G a_comes,
      f_comes := fun_mk l_comes e_comes k_comes,
      b_comes := (fun_mk (st := s_comes) l_comes e_comes k_comes).binds fun _ _ _ _ _ _ us hl => match us, hl with | [_, _], _ => rfl,
      m_hear := PySem.W.mg_of X G a_hear,
      f_hear := fun_mk l_hear e_hear k_hear,
      b_hear := (fun_mk (st := s_hear) l_hear e_hear k_hear).binds fun _ _ _ _ _ _ us hl => match us, hl with | [_, _], _ => rfl,
      m_greater_of_each := PySem.W.mg_of X G a_greater_of_each,
      f_greater_of_each := fun_mk l_greater_of_each e_greater_of_each k_greater_of_each,
      b_greater_of_each := (fun_mk (st := s_greater_of_each) l_greater_of_each e_greater_of_each k_greater_of_each).binds fun _ _ _ _ _ _ us hl => match us, hl with | [_, _], _ => rfl,
      m_back := PySem.W.mg_of X G a_back,
      f_back := fun_mk l_back e_back k_back,
      b_back := (fun_mk (st := s_back) l_back e_back k_back).binds fun _ _ _ _ _ _ us hl => match us, hl with | [_, _, _], _ => rfl,
      m_undo := PySem.W.mg_of X G a_undo,
      f_undo := fun_mk l_undo e_undo k_undo,
      b_undo := (fun_mk (st := s_undo) l_undo e_undo k_undo).binds fun _ _ _ _ _ _ us hl => match us, hl with | [_, _], _ => rfl,
      m_redo := PySem.W.mg_of X G a_redo,
      f_redo := fun_mk l_redo e_redo k_redo,
      b_redo := (fun_mk (st := s_redo) l_redo e_redo k_redo).binds fun _ _ _ _ _ _ us hl => match us, hl with | [_, _], _ => rfl,
      m_taken_last := PySem.W.mg_of X G a_taken_last,
      f_taken_last := fun_mk l_taken_last e_taken_last k_taken_last,
      b_taken_last := (fun_mk (st := s_taken_last) l_taken_last e_taken_last k_taken_last).binds fun _ _ _ _ _ _ us hl => match us, hl with | [_, _], _ => rfl,
      m_is_own_change := PySem.W.mg_of X G a_is_own_change,
      f_is_own_change := fun_mk l_is_own_change e_is_own_change k_is_own_change,
      b_is_own_change := (fun_mk (st := s_is_own_change) l_is_own_change e_is_own_change k_is_own_change).binds fun _ _ _ _ _ _ us hl => match us, hl with | [_, _], _ => rfl,
      m_numbers_held := PySem.W.mg_of X G a_numbers_held,
      f_numbers_held := fun_mk l_numbers_held e_numbers_held k_numbers_held,
      b_numbers_held := (fun_mk (st := s_numbers_held) l_numbers_held e_numbers_held k_numbers_held).binds fun _ _ _ _ _ _ us hl => match us, hl with | [_, _], _ => rfl,
      m_is_too_late := PySem.W.mg_of X G a_is_too_late,
      f_is_too_late := fun_mk l_is_too_late e_is_too_late k_is_too_late,
      b_is_too_late := (fun_mk (st := s_is_too_late) l_is_too_late e_is_too_late k_is_too_late).binds fun _ _ _ _ _ _ us hl => match us, hl with | [_, _, _], _ => rfl,
      m_answers := PySem.W.mg_of X G a_answers,
      f_answers := fun_mk l_answers e_answers k_answers,
      b_answers := (fun_mk (st := s_answers) l_answers e_answers k_answers).binds fun _ _ _ _ _ _ us hl => match us, hl with | [_], _ => rfl,
      m_answers_of := PySem.W.mg_of X G a_answers_of,
      f_answers_of := fun_mk l_answers_of e_answers_of k_answers_of,
      b_answers_of := (fun_mk (st := s_answers_of) l_answers_of e_answers_of k_answers_of).binds fun _ _ _ _ _ _ us hl => match us, hl with | [_, _], _ => rfl,
      m_answer_of := PySem.W.mg_of X G a_answer_of,
      f_answer_of := fun_mk l_answer_of e_answer_of k_answer_of,
      b_answer_of := (fun_mk (st := s_answer_of) l_answer_of e_answer_of k_answer_of).binds fun _ _ _ _ _ _ us hl => match us, hl with | [_, _, _], _ => rfl,
      m_answer_of_change := PySem.W.mg_of X G a_answer_of_change,
      f_answer_of_change := fun_mk l_answer_of_change e_answer_of_change k_answer_of_change,
      b_answer_of_change := (fun_mk (st := s_answer_of_change) l_answer_of_change e_answer_of_change k_answer_of_change).binds fun _ _ _ _ _ _ us hl => match us, hl with | [_, _, _], _ => rfl,
      m_answer_of_taking := PySem.W.mg_of X G a_answer_of_taking,
      f_answer_of_taking := fun_mk l_answer_of_taking e_answer_of_taking k_answer_of_taking,
      b_answer_of_taking := (fun_mk (st := s_answer_of_taking) l_answer_of_taking e_answer_of_taking k_answer_of_taking).binds fun _ _ _ _ _ _ us hl => match us, hl with | [_, _, _], _ => rfl,
      m_answer_of_keeping := PySem.W.mg_of X G a_answer_of_keeping,
      f_answer_of_keeping := fun_mk l_answer_of_keeping e_answer_of_keeping k_answer_of_keeping,
      b_answer_of_keeping := (fun_mk (st := s_answer_of_keeping) l_answer_of_keeping e_answer_of_keeping k_answer_of_keeping).binds fun _ _ _ _ _ _ us hl => match us, hl with | [_, _, _], _ => rfl,
      m_answer_of_question := PySem.W.mg_of X G a_answer_of_question,
      f_answer_of_question := fun_mk l_answer_of_question e_answer_of_question k_answer_of_question,
      b_answer_of_question := (fun_mk (st := s_answer_of_question) l_answer_of_question e_answer_of_question k_answer_of_question).binds fun _ _ _ _ _ _ us hl => match us, hl with | [_, _, _], _ => rfl,
      ty_Put := fun _ _ _ _ e => .base (.ins e ⟨pg_Put, hd_Put, po_Put, sa_Put⟩ tc_Put ob_get ob_tk tm_Put),
      is_Put_Adding := is_Put_Adding,
      is_Put_Put := is_Put_Put,
      is_Put_TakingBack := is_Put_TakingBack,
      is_Put_TakingBack_DoingAgain := is_Put_TakingBack_DoingAgain,
      is_Put_Telling := is_Put_Telling,
      is_Put_Telling_Clearing := is_Put_Telling_Clearing,
      ty_Telling := fun _ _ _ _ e => .base (.ins e ⟨pg_Telling, hd_Telling, po_Telling, sa_Telling⟩ tc_Telling ob_get ob_tk tm_Telling),
      is_Telling_Adding := is_Telling_Adding,
      is_Telling_Put := is_Telling_Put,
      is_Telling_TakingBack := is_Telling_TakingBack,
      is_Telling_TakingBack_DoingAgain := is_Telling_TakingBack_DoingAgain,
      is_Telling_Telling := is_Telling_Telling,
      is_Telling_Telling_Clearing := is_Telling_Telling_Clearing,
      ty_Clearing := fun _ _ _ _ e => .base (.ins e ⟨pg_Clearing, hd_Clearing, po_Clearing, sa_Clearing⟩ tc_Clearing ob_get ob_tk tm_Clearing),
      is_Clearing_Adding := is_Clearing_Adding,
      is_Clearing_Put := is_Clearing_Put,
      is_Clearing_TakingBack := is_Clearing_TakingBack,
      is_Clearing_TakingBack_DoingAgain := is_Clearing_TakingBack_DoingAgain,
      is_Clearing_Telling := is_Clearing_Telling,
      is_Clearing_Telling_Clearing := is_Clearing_Telling_Clearing,
      ty_Adding := fun _ _ _ _ e => .base (.ins e ⟨pg_Adding, hd_Adding, po_Adding, sa_Adding⟩ tc_Adding ob_get ob_tk tm_Adding),
      is_Adding_Adding := is_Adding_Adding,
      is_Adding_Put := is_Adding_Put,
      is_Adding_TakingBack := is_Adding_TakingBack,
      is_Adding_TakingBack_DoingAgain := is_Adding_TakingBack_DoingAgain,
      is_Adding_Telling := is_Adding_Telling,
      is_Adding_Telling_Clearing := is_Adding_Telling_Clearing,
      ty_TakingBack := fun _ _ _ _ e => .base (.ins e ⟨pg_TakingBack, hd_TakingBack, po_TakingBack, sa_TakingBack⟩ tc_TakingBack ob_get ob_tk tm_TakingBack),
      is_TakingBack_Adding := is_TakingBack_Adding,
      is_TakingBack_Put := is_TakingBack_Put,
      is_TakingBack_TakingBack := is_TakingBack_TakingBack,
      is_TakingBack_TakingBack_DoingAgain := is_TakingBack_TakingBack_DoingAgain,
      is_TakingBack_Telling := is_TakingBack_Telling,
      is_TakingBack_Telling_Clearing := is_TakingBack_Telling_Clearing,
      ty_DoingAgain := fun _ _ _ _ e => .base (.ins e ⟨pg_DoingAgain, hd_DoingAgain, po_DoingAgain, sa_DoingAgain⟩ tc_DoingAgain ob_get ob_tk tm_DoingAgain),
      is_DoingAgain_Adding := is_DoingAgain_Adding,
      is_DoingAgain_Put := is_DoingAgain_Put,
      is_DoingAgain_TakingBack := is_DoingAgain_TakingBack,
      is_DoingAgain_TakingBack_DoingAgain := is_DoingAgain_TakingBack_DoingAgain,
      is_DoingAgain_Telling := is_DoingAgain_Telling,
      is_DoingAgain_Telling_Clearing := is_DoingAgain_Telling_Clearing } e2

end Ho
end

section
open PySem PySem.W PyProof.Rows
set_option maxRecDepth 100000 in
set_option maxHeartbeats 8000000 in
theorem PySem.Challenge.cw_handsoutline_s01_answers_holds : PySem.Challenge.rw_handsoutline_s01_answers.Holds := by
  w_on; k_headS; (case hw => exact ⟨[.list [.int 1, .int 1]], by decide +kernel, by decide +kernel⟩)
  k_fillS
  refine L2.walk_specK (r := PySem.Challenge.rw_handsoutline_s01_answers) (k := 14) (CX := L2.CX0) (ps := ["calls"]) (sp := Ho.spAns) (by decide +kernel) rfl rfl ⟨rfl, by decide, by decide⟩ (fun w h Y => PySem.W.kIn_of Y) ?F ?S (fun _ _ _ _ z => z)
  case F =>
    intro w mg fa h Y KX G hmg
    refine' Ho.all_mk KX G hmg ?z_all ?z_any ?z_isinstance ?z_len ?z_list ?z_max ?z_min ?z_range ?z_reversed ?z_sorted ?z_sum ?g_LEFT ?g_RIGHT ?g_BEGINNING ?g_REACH ?g_LAST_FIELD ?g_NOT_REFUSED ?g_WRONG ?g_NO_DESK ?g_NO_LETTER ?g_NOT_THERE ?g_TOO_LATE ?g_FULL ?g_WITHIN ?g_MOST_DEEDS ?g_FIRST_MADE ?g_ROOT ?g_BIN ?g_MOST_DESKS ?g_GREATEST_TOLD ?g_MOST_LETTERS ?g_BEGIN ?g_MAKE ?g_MOVE ?g_TELL ?g_CLEAR ?g_ADD ?g_LESS ?g_BACK ?g_UNDO ?g_REDO ?g_SEND ?g_COMES ?g_FORGET ?g_TREE ?g_ROW ?g_LINE ?g_VALUES ?g_AMOUNTS ?g_FIND ?g_KEPT ?c_SIZES ?t_SIZES ?c_Put ?pg_Put ?hd_Put ?po_Put ?sa_Put ?mk_Put ?kc_Put ?na_Put_thing ?na_Put_under ?na_Put_at ?na_Put_side ?c_Telling ?pg_Telling ?hd_Telling ?po_Telling ?sa_Telling ?mk_Telling ?kc_Telling ?na_Telling_thing ?na_Telling_field ?na_Telling_value ?c_Clearing ?pg_Clearing ?hd_Clearing ?po_Clearing ?sa_Clearing ?mk_Clearing ?kc_Clearing ?na_Clearing_thing ?na_Clearing_field ?c_Adding ?pg_Adding ?hd_Adding ?po_Adding ?sa_Adding ?mk_Adding ?kc_Adding ?na_Adding_thing ?na_Adding_amount ?c_TakingBack ?pg_TakingBack ?hd_TakingBack ?po_TakingBack ?sa_TakingBack ?mk_TakingBack ?kc_TakingBack ?na_TakingBack_deed ?c_DoingAgain ?pg_DoingAgain ?hd_DoingAgain ?po_DoingAgain ?sa_DoingAgain ?mk_DoingAgain ?kc_DoingAgain ?na_DoingAgain_deed ?c_Deed ?pg_Deed ?hd_Deed ?po_Deed ?sa_Deed ?mk_Deed ?kc_Deed ?na_Deed_number ?na_Deed_desk ?na_Deed_rank ?na_Deed_count ?na_Deed_saw ?na_Deed_act ?c_Desk ?pg_Desk ?hd_Desk ?po_Desk ?sa_Desk ?mk_Desk ?kc_Desk ?na_Desk_greatest ?na_Desk_counts ?na_Desk_sure ?na_Desk_heard ?na_Desk_forgotten ?c_Letter ?pg_Letter ?hd_Letter ?po_Letter ?sa_Letter ?mk_Letter ?kc_Letter ?na_Letter_source ?na_Letter_target ?na_Letter_counts ?na_Letter_greatest ?na_Letter_deeds ?c_House ?pg_House ?hd_House ?po_House ?sa_House ?mk_House ?kc_House ?na_House_desks ?na_House_deeds ?na_House_letters ?na_House_next_thing ?c_Outline ?pg_Outline ?hd_Outline ?po_Outline ?sa_Outline ?mk_Outline ?kc_Outline ?na_Outline_deeds ?na_Outline_held ?na_Outline_places ?a_Put_init ?i_Put_init ?l_Put_init ?e_Put_init ?k_Put_init ?a_Telling_init ?i_Telling_init ?l_Telling_init ?e_Telling_init ?k_Telling_init ?a_Clearing_init ?i_Clearing_init ?l_Clearing_init ?e_Clearing_init ?k_Clearing_init ?a_Adding_init ?i_Adding_init ?l_Adding_init ?e_Adding_init ?k_Adding_init ?a_TakingBack_init ?i_TakingBack_init ?l_TakingBack_init ?e_TakingBack_init ?k_TakingBack_init ?a_DoingAgain_init ?i_DoingAgain_init ?l_DoingAgain_init ?e_DoingAgain_init ?k_DoingAgain_init ?a_Deed_init ?i_Deed_init ?l_Deed_init ?e_Deed_init ?k_Deed_init ?a_stamp ?l_stamp ?e_stamp ?k_stamp ?a_is_change ?l_is_change ?e_is_change ?k_is_change ?a_is_in_reach ?l_is_in_reach ?e_is_in_reach ?k_is_in_reach ?a_has_seen ?l_has_seen ?e_has_seen ?k_has_seen ?a_tellings_of ?l_tellings_of ?e_tellings_of ?k_tellings_of ?a_is_about ?l_is_about ?e_is_about ?k_is_about ?a_is_seen ?l_is_seen ?e_is_seen ?k_is_seen ?a_amount_of ?l_amount_of ?e_amount_of ?k_amount_of ?a_holding ?l_holding ?e_holding ?k_holding ?a_puts_under ?l_puts_under ?e_puts_under ?k_puts_under ?a_spots_under ?l_spots_under ?e_spots_under ?k_spots_under ?a_right_behind ?l_right_behind ?e_right_behind ?k_right_behind ?a_has_right ?l_has_right ?e_has_right ?k_has_right ?a_Desk_init ?i_Desk_init ?l_Desk_init ?e_Desk_init ?k_Desk_init ?a_Letter_init ?i_Letter_init ?l_Letter_init ?e_Letter_init ?k_Letter_init ?a_House_init ?i_House_init ?l_House_init ?e_House_init ?k_House_init ?a_House_start ?i_House_start ?l_House_start ?e_House_start ?k_House_start ?a_has_desk ?l_has_desk ?e_has_desk ?k_has_desk ?a_is_full ?l_is_full ?e_is_full ?k_is_full ?a_had ?l_had ?e_had ?k_had ?a_others_of ?l_others_of ?e_others_of ?k_others_of ?a_next_count ?l_next_count ?e_next_count ?k_next_count ?a_do_deed ?l_do_deed ?e_do_deed ?k_do_deed ?a_places_of ?l_places_of ?e_places_of ?k_places_of ?a_can_be_put ?l_can_be_put ?e_can_be_put ?k_can_be_put ?a_is_there ?l_is_there ?e_is_there ?k_is_there ?a_line_up ?l_line_up ?e_line_up ?k_line_up ?a_Outline_init ?i_Outline_init ?l_Outline_init ?e_Outline_init ?k_Outline_init ?a_outline_of ?l_outline_of ?e_outline_of ?k_outline_of ?a_refusal_about ?l_refusal_about ?e_refusal_about ?k_refusal_about ?a_row_of ?l_row_of ?e_row_of ?k_row_of ?a_is_by ?l_is_by ?e_is_by ?k_is_by ?a_things_in_row ?l_things_in_row ?e_things_in_row ?k_things_in_row ?a_within ?l_within ?e_within ?k_within ?a_ask_tree ?l_ask_tree ?e_ask_tree ?k_ask_tree ?a_ask_row ?l_ask_row ?e_ask_row ?k_ask_row ?a_ask_line ?l_ask_line ?e_ask_line ?k_ask_line ?a_ask_values ?l_ask_values ?e_ask_values ?k_ask_values ?a_ask_amounts ?l_ask_amounts ?e_ask_amounts ?k_ask_amounts ?a_ask_find ?l_ask_find ?e_ask_find ?k_ask_find ?a_has_value ?l_has_value ?e_has_value ?k_has_value ?a_ask_same ?l_ask_same ?e_ask_same ?k_ask_same ?a_counted ?l_counted ?e_counted ?k_counted ?a_counted_pairs ?l_counted_pairs ?e_counted_pairs ?k_counted_pairs ?a_begin ?l_begin ?e_begin ?k_begin ?a_make ?l_make ?e_make ?k_make ?a_move ?l_move ?e_move ?k_move ?a_can_move ?l_can_move ?e_can_move ?k_can_move ?a_put_behind ?l_put_behind ?e_put_behind ?k_put_behind ?a_tell ?l_tell ?e_tell ?k_tell ?a_clear_field ?l_clear_field ?e_clear_field ?k_clear_field ?a_add_amount ?l_add_amount ?e_add_amount ?k_add_amount ?a_less_amount ?l_less_amount ?e_less_amount ?k_less_amount ?a_do_to_thing ?l_do_to_thing ?e_do_to_thing ?k_do_to_thing ?a_refusal_to_thing ?l_refusal_to_thing ?e_refusal_to_thing ?k_refusal_to_thing ?a_forget ?l_forget ?e_forget ?k_forget ?a_ask_kept ?l_ask_kept ?e_ask_kept ?k_ask_kept ?a_kept_deeds ?l_kept_deeds ?e_kept_deeds ?k_kept_deeds ?a_ripe_deeds ?l_ripe_deeds ?e_ripe_deeds ?k_ripe_deeds ?a_settled_count ?l_settled_count ?e_settled_count ?k_settled_count ?a_is_sure_of_all ?l_is_sure_of_all ?e_is_sure_of_all ?k_is_sure_of_all ?a_send ?l_send ?e_send ?k_send ?a_written ?l_written ?e_written ?k_written ?a_unsure ?l_unsure ?e_unsure ?k_unsure ?a_comes ?l_comes ?e_comes ?k_comes ?a_hear ?l_hear ?e_hear ?k_hear ?a_greater_of_each ?l_greater_of_each ?e_greater_of_each ?k_greater_of_each ?a_back ?l_back ?e_back ?k_back ?a_undo ?l_undo ?e_undo ?k_undo ?a_redo ?l_redo ?e_redo ?k_redo ?a_taken_last ?l_taken_last ?e_taken_last ?k_taken_last ?a_is_own_change ?l_is_own_change ?e_is_own_change ?k_is_own_change ?a_numbers_held ?l_numbers_held ?e_numbers_held ?k_numbers_held ?a_is_too_late ?l_is_too_late ?e_is_too_late ?k_is_too_late ?a_answers ?l_answers ?e_answers ?k_answers ?a_answers_of ?l_answers_of ?e_answers_of ?k_answers_of ?a_answer_of ?l_answer_of ?e_answer_of ?k_answer_of ?a_answer_of_change ?l_answer_of_change ?e_answer_of_change ?k_answer_of_change ?a_answer_of_taking ?l_answer_of_taking ?e_answer_of_taking ?k_answer_of_taking ?a_answer_of_keeping ?l_answer_of_keeping ?e_answer_of_keeping ?k_answer_of_keeping ?a_answer_of_question ?l_answer_of_question ?e_answer_of_question ?k_answer_of_question ?ob_get ?ob_tk ?tc_Put ?tm_Put ?is_Put_Adding ?is_Put_Put ?is_Put_TakingBack ?is_Put_TakingBack_DoingAgain ?is_Put_Telling ?is_Put_Telling_Clearing ?tc_Telling ?tm_Telling ?is_Telling_Adding ?is_Telling_Put ?is_Telling_TakingBack ?is_Telling_TakingBack_DoingAgain ?is_Telling_Telling ?is_Telling_Telling_Clearing ?tc_Clearing ?tm_Clearing ?is_Clearing_Adding ?is_Clearing_Put ?is_Clearing_TakingBack ?is_Clearing_TakingBack_DoingAgain ?is_Clearing_Telling ?is_Clearing_Telling_Clearing ?tc_Adding ?tm_Adding ?is_Adding_Adding ?is_Adding_Put ?is_Adding_TakingBack ?is_Adding_TakingBack_DoingAgain ?is_Adding_Telling ?is_Adding_Telling_Clearing ?tc_TakingBack ?tm_TakingBack ?is_TakingBack_Adding ?is_TakingBack_Put ?is_TakingBack_TakingBack ?is_TakingBack_TakingBack_DoingAgain ?is_TakingBack_Telling ?is_TakingBack_Telling_Clearing ?tc_DoingAgain ?tm_DoingAgain ?is_DoingAgain_Adding ?is_DoingAgain_Put ?is_DoingAgain_TakingBack ?is_DoingAgain_TakingBack_DoingAgain ?is_DoingAgain_Telling ?is_DoingAgain_Telling_Clearing ?fin
    (case z_all => k_is)
    (case z_any => k_is)
    (case z_isinstance => k_is)
    (case z_len => k_is)
    (case z_list => k_is)
    (case z_max => k_is)
    (case z_min => k_is)
    (case z_range => k_is)
    (case z_reversed => k_is)
    (case z_sorted => k_is)
    (case z_sum => k_is)
    (case g_LEFT => k_is)
    (case g_RIGHT => k_is)
    (case g_BEGINNING => k_is)
    (case g_REACH => k_is)
    (case g_LAST_FIELD => k_is)
    (case g_NOT_REFUSED => k_is)
    (case g_WRONG => k_is)
    (case g_NO_DESK => k_is)
    (case g_NO_LETTER => k_is)
    (case g_NOT_THERE => k_is)
    (case g_TOO_LATE => k_is)
    (case g_FULL => k_is)
    (case g_WITHIN => k_is)
    (case g_MOST_DEEDS => k_is)
    (case g_FIRST_MADE => k_is)
    (case g_ROOT => k_is)
    (case g_BIN => k_is)
    (case g_MOST_DESKS => k_is)
    (case g_GREATEST_TOLD => k_is)
    (case g_MOST_LETTERS => k_is)
    (case g_BEGIN => k_is)
    (case g_MAKE => k_is)
    (case g_MOVE => k_is)
    (case g_TELL => k_is)
    (case g_CLEAR => k_is)
    (case g_ADD => k_is)
    (case g_LESS => k_is)
    (case g_BACK => k_is)
    (case g_UNDO => k_is)
    (case g_REDO => k_is)
    (case g_SEND => k_is)
    (case g_COMES => k_is)
    (case g_FORGET => k_is)
    (case g_TREE => k_is)
    (case g_ROW => k_is)
    (case g_LINE => k_is)
    (case g_VALUES => k_is)
    (case g_AMOUNTS => k_is)
    (case g_FIND => k_is)
    (case g_KEPT => k_is)
    (case c_SIZES => k_is)
    (case t_SIZES => k_is)
    (case c_Put => k_is)
    (case pg_Put => k_is)
    (case hd_Put => k_is)
    (case po_Put => k_is)
    (case sa_Put => k_is)
    (case mk_Put => k_is)
    (case kc_Put => k_is)
    (case na_Put_thing => k_is)
    (case na_Put_under => k_is)
    (case na_Put_at => k_is)
    (case na_Put_side => k_is)
    (case c_Telling => k_is)
    (case pg_Telling => k_is)
    (case hd_Telling => k_is)
    (case po_Telling => k_is)
    (case sa_Telling => k_is)
    (case mk_Telling => k_is)
    (case kc_Telling => k_is)
    (case na_Telling_thing => k_is)
    (case na_Telling_field => k_is)
    (case na_Telling_value => k_is)
    (case c_Clearing => k_is)
    (case pg_Clearing => k_is)
    (case hd_Clearing => k_is)
    (case po_Clearing => k_is)
    (case sa_Clearing => k_is)
    (case mk_Clearing => k_is)
    (case kc_Clearing => k_is)
    (case na_Clearing_thing => k_is)
    (case na_Clearing_field => k_is)
    (case c_Adding => k_is)
    (case pg_Adding => k_is)
    (case hd_Adding => k_is)
    (case po_Adding => k_is)
    (case sa_Adding => k_is)
    (case mk_Adding => k_is)
    (case kc_Adding => k_is)
    (case na_Adding_thing => k_is)
    (case na_Adding_amount => k_is)
    (case c_TakingBack => k_is)
    (case pg_TakingBack => k_is)
    (case hd_TakingBack => k_is)
    (case po_TakingBack => k_is)
    (case sa_TakingBack => k_is)
    (case mk_TakingBack => k_is)
    (case kc_TakingBack => k_is)
    (case na_TakingBack_deed => k_is)
    (case c_DoingAgain => k_is)
    (case pg_DoingAgain => k_is)
    (case hd_DoingAgain => k_is)
    (case po_DoingAgain => k_is)
    (case sa_DoingAgain => k_is)
    (case mk_DoingAgain => k_is)
    (case kc_DoingAgain => k_is)
    (case na_DoingAgain_deed => k_is)
    (case c_Deed => k_is)
    (case pg_Deed => k_is)
    (case hd_Deed => k_is)
    (case po_Deed => k_is)
    (case sa_Deed => k_is)
    (case mk_Deed => k_is)
    (case kc_Deed => k_is)
    (case na_Deed_number => k_is)
    (case na_Deed_desk => k_is)
    (case na_Deed_rank => k_is)
    (case na_Deed_count => k_is)
    (case na_Deed_saw => k_is)
    (case na_Deed_act => k_is)
    (case c_Desk => k_is)
    (case pg_Desk => k_is)
    (case hd_Desk => k_is)
    (case po_Desk => k_is)
    (case sa_Desk => k_is)
    (case mk_Desk => k_is)
    (case kc_Desk => k_is)
    (case na_Desk_greatest => k_is)
    (case na_Desk_counts => k_is)
    (case na_Desk_sure => k_is)
    (case na_Desk_heard => k_is)
    (case na_Desk_forgotten => k_is)
    (case c_Letter => k_is)
    (case pg_Letter => k_is)
    (case hd_Letter => k_is)
    (case po_Letter => k_is)
    (case sa_Letter => k_is)
    (case mk_Letter => k_is)
    (case kc_Letter => k_is)
    (case na_Letter_source => k_is)
    (case na_Letter_target => k_is)
    (case na_Letter_counts => k_is)
    (case na_Letter_greatest => k_is)
    (case na_Letter_deeds => k_is)
    (case c_House => k_is)
    (case pg_House => k_is)
    (case hd_House => k_is)
    (case po_House => k_is)
    (case sa_House => k_is)
    (case mk_House => k_is)
    (case kc_House => k_is)
    (case na_House_desks => k_is)
    (case na_House_deeds => k_is)
    (case na_House_letters => k_is)
    (case na_House_next_thing => k_is)
    (case c_Outline => k_is)
    (case pg_Outline => k_is)
    (case hd_Outline => k_is)
    (case po_Outline => k_is)
    (case sa_Outline => k_is)
    (case mk_Outline => k_is)
    (case kc_Outline => k_is)
    (case na_Outline_deeds => k_is)
    (case na_Outline_held => k_is)
    (case na_Outline_places => k_is)
    (case a_Put_init => k_is)
    (case i_Put_init => k_is)
    (case l_Put_init => k_is)
    (case e_Put_init => k_is)
    (case k_Put_init => k_is)
    (case a_Telling_init => k_is)
    (case i_Telling_init => k_is)
    (case l_Telling_init => k_is)
    (case e_Telling_init => k_is)
    (case k_Telling_init => k_is)
    (case a_Clearing_init => k_is)
    (case i_Clearing_init => k_is)
    (case l_Clearing_init => k_is)
    (case e_Clearing_init => k_is)
    (case k_Clearing_init => k_is)
    (case a_Adding_init => k_is)
    (case i_Adding_init => k_is)
    (case l_Adding_init => k_is)
    (case e_Adding_init => k_is)
    (case k_Adding_init => k_is)
    (case a_TakingBack_init => k_is)
    (case i_TakingBack_init => k_is)
    (case l_TakingBack_init => k_is)
    (case e_TakingBack_init => k_is)
    (case k_TakingBack_init => k_is)
    (case a_DoingAgain_init => k_is)
    (case i_DoingAgain_init => k_is)
    (case l_DoingAgain_init => k_is)
    (case e_DoingAgain_init => k_is)
    (case k_DoingAgain_init => k_is)
    (case a_Deed_init => k_is)
    (case i_Deed_init => k_is)
    (case l_Deed_init => k_is)
    (case e_Deed_init => k_is)
    (case k_Deed_init => k_is)
    (case a_stamp => k_is)
    (case l_stamp => k_is)
    (case e_stamp => k_is)
    (case k_stamp => k_is)
    (case a_is_change => k_is)
    (case l_is_change => k_is)
    (case e_is_change => k_is)
    (case k_is_change => k_is)
    (case a_is_in_reach => k_is)
    (case l_is_in_reach => k_is)
    (case e_is_in_reach => k_is)
    (case k_is_in_reach => k_is)
    (case a_has_seen => k_is)
    (case l_has_seen => k_is)
    (case e_has_seen => k_is)
    (case k_has_seen => k_is)
    (case a_tellings_of => k_is)
    (case l_tellings_of => k_is)
    (case e_tellings_of => k_is)
    (case k_tellings_of => k_is)
    (case a_is_about => k_is)
    (case l_is_about => k_is)
    (case e_is_about => k_is)
    (case k_is_about => k_is)
    (case a_is_seen => k_is)
    (case l_is_seen => k_is)
    (case e_is_seen => k_is)
    (case k_is_seen => k_is)
    (case a_amount_of => k_is)
    (case l_amount_of => k_is)
    (case e_amount_of => k_is)
    (case k_amount_of => k_is)
    (case a_holding => k_is)
    (case l_holding => k_is)
    (case e_holding => k_is)
    (case k_holding => k_is)
    (case a_puts_under => k_is)
    (case l_puts_under => k_is)
    (case e_puts_under => k_is)
    (case k_puts_under => k_is)
    (case a_spots_under => k_is)
    (case l_spots_under => k_is)
    (case e_spots_under => k_is)
    (case k_spots_under => k_is)
    (case a_right_behind => k_is)
    (case l_right_behind => k_is)
    (case e_right_behind => k_is)
    (case k_right_behind => k_is)
    (case a_has_right => k_is)
    (case l_has_right => k_is)
    (case e_has_right => k_is)
    (case k_has_right => k_is)
    (case a_Desk_init => k_is)
    (case i_Desk_init => k_is)
    (case l_Desk_init => k_is)
    (case e_Desk_init => k_is)
    (case k_Desk_init => k_is)
    (case a_Letter_init => k_is)
    (case i_Letter_init => k_is)
    (case l_Letter_init => k_is)
    (case e_Letter_init => k_is)
    (case k_Letter_init => k_is)
    (case a_House_init => k_is)
    (case i_House_init => k_is)
    (case l_House_init => k_is)
    (case e_House_init => k_is)
    (case k_House_init => k_is)
    (case a_House_start => k_is)
    (case i_House_start => k_is)
    (case l_House_start => k_is)
    (case e_House_start => k_is)
    (case k_House_start => k_is)
    (case a_has_desk => k_is)
    (case l_has_desk => k_is)
    (case e_has_desk => k_is)
    (case k_has_desk => k_is)
    (case a_is_full => k_is)
    (case l_is_full => k_is)
    (case e_is_full => k_is)
    (case k_is_full => k_is)
    (case a_had => k_is)
    (case l_had => k_is)
    (case e_had => k_is)
    (case k_had => k_is)
    (case a_others_of => k_is)
    (case l_others_of => k_is)
    (case e_others_of => k_is)
    (case k_others_of => k_is)
    (case a_next_count => k_is)
    (case l_next_count => k_is)
    (case e_next_count => k_is)
    (case k_next_count => k_is)
    (case a_do_deed => k_is)
    (case l_do_deed => k_is)
    (case e_do_deed => k_is)
    (case k_do_deed => k_is)
    (case a_places_of => k_is)
    (case l_places_of => k_is)
    (case e_places_of => k_is)
    (case k_places_of => k_is)
    (case a_can_be_put => k_is)
    (case l_can_be_put => k_is)
    (case e_can_be_put => k_is)
    (case k_can_be_put => k_is)
    (case a_is_there => k_is)
    (case l_is_there => k_is)
    (case e_is_there => k_is)
    (case k_is_there => k_is)
    (case a_line_up => k_is)
    (case l_line_up => k_is)
    (case e_line_up => k_is)
    (case k_line_up => k_is)
    (case a_Outline_init => k_is)
    (case i_Outline_init => k_is)
    (case l_Outline_init => k_is)
    (case e_Outline_init => k_is)
    (case k_Outline_init => k_is)
    (case a_outline_of => k_is)
    (case l_outline_of => k_is)
    (case e_outline_of => k_is)
    (case k_outline_of => k_is)
    (case a_refusal_about => k_is)
    (case l_refusal_about => k_is)
    (case e_refusal_about => k_is)
    (case k_refusal_about => k_is)
    (case a_row_of => k_is)
    (case l_row_of => k_is)
    (case e_row_of => k_is)
    (case k_row_of => k_is)
    (case a_is_by => k_is)
    (case l_is_by => k_is)
    (case e_is_by => k_is)
    (case k_is_by => k_is)
    (case a_things_in_row => k_is)
    (case l_things_in_row => k_is)
    (case e_things_in_row => k_is)
    (case k_things_in_row => k_is)
    (case a_within => k_is)
    (case l_within => k_is)
    (case e_within => k_is)
    (case k_within => k_is)
    (case a_ask_tree => k_is)
    (case l_ask_tree => k_is)
    (case e_ask_tree => k_is)
    (case k_ask_tree => k_is)
    (case a_ask_row => k_is)
    (case l_ask_row => k_is)
    (case e_ask_row => k_is)
    (case k_ask_row => k_is)
    (case a_ask_line => k_is)
    (case l_ask_line => k_is)
    (case e_ask_line => k_is)
    (case k_ask_line => k_is)
    (case a_ask_values => k_is)
    (case l_ask_values => k_is)
    (case e_ask_values => k_is)
    (case k_ask_values => k_is)
    (case a_ask_amounts => k_is)
    (case l_ask_amounts => k_is)
    (case e_ask_amounts => k_is)
    (case k_ask_amounts => k_is)
    (case a_ask_find => k_is)
    (case l_ask_find => k_is)
    (case e_ask_find => k_is)
    (case k_ask_find => k_is)
    (case a_has_value => k_is)
    (case l_has_value => k_is)
    (case e_has_value => k_is)
    (case k_has_value => k_is)
    (case a_ask_same => k_is)
    (case l_ask_same => k_is)
    (case e_ask_same => k_is)
    (case k_ask_same => k_is)
    (case a_counted => k_is)
    (case l_counted => k_is)
    (case e_counted => k_is)
    (case k_counted => k_is)
    (case a_counted_pairs => k_is)
    (case l_counted_pairs => k_is)
    (case e_counted_pairs => k_is)
    (case k_counted_pairs => k_is)
    (case a_begin => k_is)
    (case l_begin => k_is)
    (case e_begin => k_is)
    (case k_begin => k_is)
    (case a_make => k_is)
    (case l_make => k_is)
    (case e_make => k_is)
    (case k_make => k_is)
    (case a_move => k_is)
    (case l_move => k_is)
    (case e_move => k_is)
    (case k_move => k_is)
    (case a_can_move => k_is)
    (case l_can_move => k_is)
    (case e_can_move => k_is)
    (case k_can_move => k_is)
    (case a_put_behind => k_is)
    (case l_put_behind => k_is)
    (case e_put_behind => k_is)
    (case k_put_behind => k_is)
    (case a_tell => k_is)
    (case l_tell => k_is)
    (case e_tell => k_is)
    (case k_tell => k_is)
    (case a_clear_field => k_is)
    (case l_clear_field => k_is)
    (case e_clear_field => k_is)
    (case k_clear_field => k_is)
    (case a_add_amount => k_is)
    (case l_add_amount => k_is)
    (case e_add_amount => k_is)
    (case k_add_amount => k_is)
    (case a_less_amount => k_is)
    (case l_less_amount => k_is)
    (case e_less_amount => k_is)
    (case k_less_amount => k_is)
    (case a_do_to_thing => k_is)
    (case l_do_to_thing => k_is)
    (case e_do_to_thing => k_is)
    (case k_do_to_thing => k_is)
    (case a_refusal_to_thing => k_is)
    (case l_refusal_to_thing => k_is)
    (case e_refusal_to_thing => k_is)
    (case k_refusal_to_thing => k_is)
    (case a_forget => k_is)
    (case l_forget => k_is)
    (case e_forget => k_is)
    (case k_forget => k_is)
    (case a_ask_kept => k_is)
    (case l_ask_kept => k_is)
    (case e_ask_kept => k_is)
    (case k_ask_kept => k_is)
    (case a_kept_deeds => k_is)
    (case l_kept_deeds => k_is)
    (case e_kept_deeds => k_is)
    (case k_kept_deeds => k_is)
    (case a_ripe_deeds => k_is)
    (case l_ripe_deeds => k_is)
    (case e_ripe_deeds => k_is)
    (case k_ripe_deeds => k_is)
    (case a_settled_count => k_is)
    (case l_settled_count => k_is)
    (case e_settled_count => k_is)
    (case k_settled_count => k_is)
    (case a_is_sure_of_all => k_is)
    (case l_is_sure_of_all => k_is)
    (case e_is_sure_of_all => k_is)
    (case k_is_sure_of_all => k_is)
    (case a_send => k_is)
    (case l_send => k_is)
    (case e_send => k_is)
    (case k_send => k_is)
    (case a_written => k_is)
    (case l_written => k_is)
    (case e_written => k_is)
    (case k_written => k_is)
    (case a_unsure => k_is)
    (case l_unsure => k_is)
    (case e_unsure => k_is)
    (case k_unsure => k_is)
    (case a_comes => k_is)
    (case l_comes => k_is)
    (case e_comes => k_is)
    (case k_comes => k_is)
    (case a_hear => k_is)
    (case l_hear => k_is)
    (case e_hear => k_is)
    (case k_hear => k_is)
    (case a_greater_of_each => k_is)
    (case l_greater_of_each => k_is)
    (case e_greater_of_each => k_is)
    (case k_greater_of_each => k_is)
    (case a_back => k_is)
    (case l_back => k_is)
    (case e_back => k_is)
    (case k_back => k_is)
    (case a_undo => k_is)
    (case l_undo => k_is)
    (case e_undo => k_is)
    (case k_undo => k_is)
    (case a_redo => k_is)
    (case l_redo => k_is)
    (case e_redo => k_is)
    (case k_redo => k_is)
    (case a_taken_last => k_is)
    (case l_taken_last => k_is)
    (case e_taken_last => k_is)
    (case k_taken_last => k_is)
    (case a_is_own_change => k_is)
    (case l_is_own_change => k_is)
    (case e_is_own_change => k_is)
    (case k_is_own_change => k_is)
    (case a_numbers_held => k_is)
    (case l_numbers_held => k_is)
    (case e_numbers_held => k_is)
    (case k_numbers_held => k_is)
    (case a_is_too_late => k_is)
    (case l_is_too_late => k_is)
    (case e_is_too_late => k_is)
    (case k_is_too_late => k_is)
    (case a_answers => k_is)
    (case l_answers => k_is)
    (case e_answers => k_is)
    (case k_answers => k_is)
    (case a_answers_of => k_is)
    (case l_answers_of => k_is)
    (case e_answers_of => k_is)
    (case k_answers_of => k_is)
    (case a_answer_of => k_is)
    (case l_answer_of => k_is)
    (case e_answer_of => k_is)
    (case k_answer_of => k_is)
    (case a_answer_of_change => k_is)
    (case l_answer_of_change => k_is)
    (case e_answer_of_change => k_is)
    (case k_answer_of_change => k_is)
    (case a_answer_of_taking => k_is)
    (case l_answer_of_taking => k_is)
    (case e_answer_of_taking => k_is)
    (case k_answer_of_taking => k_is)
    (case a_answer_of_keeping => k_is)
    (case l_answer_of_keeping => k_is)
    (case e_answer_of_keeping => k_is)
    (case k_answer_of_keeping => k_is)
    (case a_answer_of_question => k_is)
    (case l_answer_of_question => k_is)
    (case e_answer_of_question => k_is)
    (case k_answer_of_question => k_is)
    (case ob_get => k_is)
    (case ob_tk => k_is)
    (case tc_Put => k_is)
    (case tm_Put => k_is)
    (case is_Put_Adding => first | k_is | rfl)
    (case is_Put_Put => first | k_is | rfl)
    (case is_Put_TakingBack => first | k_is | rfl)
    (case is_Put_TakingBack_DoingAgain => first | k_is | rfl)
    (case is_Put_Telling => first | k_is | rfl)
    (case is_Put_Telling_Clearing => first | k_is | rfl)
    (case tc_Telling => k_is)
    (case tm_Telling => k_is)
    (case is_Telling_Adding => first | k_is | rfl)
    (case is_Telling_Put => first | k_is | rfl)
    (case is_Telling_TakingBack => first | k_is | rfl)
    (case is_Telling_TakingBack_DoingAgain => first | k_is | rfl)
    (case is_Telling_Telling => first | k_is | rfl)
    (case is_Telling_Telling_Clearing => first | k_is | rfl)
    (case tc_Clearing => k_is)
    (case tm_Clearing => k_is)
    (case is_Clearing_Adding => first | k_is | rfl)
    (case is_Clearing_Put => first | k_is | rfl)
    (case is_Clearing_TakingBack => first | k_is | rfl)
    (case is_Clearing_TakingBack_DoingAgain => first | k_is | rfl)
    (case is_Clearing_Telling => first | k_is | rfl)
    (case is_Clearing_Telling_Clearing => first | k_is | rfl)
    (case tc_Adding => k_is)
    (case tm_Adding => k_is)
    (case is_Adding_Adding => first | k_is | rfl)
    (case is_Adding_Put => first | k_is | rfl)
    (case is_Adding_TakingBack => first | k_is | rfl)
    (case is_Adding_TakingBack_DoingAgain => first | k_is | rfl)
    (case is_Adding_Telling => first | k_is | rfl)
    (case is_Adding_Telling_Clearing => first | k_is | rfl)
    (case tc_TakingBack => k_is)
    (case tm_TakingBack => k_is)
    (case is_TakingBack_Adding => first | k_is | rfl)
    (case is_TakingBack_Put => first | k_is | rfl)
    (case is_TakingBack_TakingBack => first | k_is | rfl)
    (case is_TakingBack_TakingBack_DoingAgain => first | k_is | rfl)
    (case is_TakingBack_Telling => first | k_is | rfl)
    (case is_TakingBack_Telling_Clearing => first | k_is | rfl)
    (case tc_DoingAgain => k_is)
    (case tm_DoingAgain => k_is)
    (case is_DoingAgain_Adding => first | k_is | rfl)
    (case is_DoingAgain_Put => first | k_is | rfl)
    (case is_DoingAgain_TakingBack => first | k_is | rfl)
    (case is_DoingAgain_TakingBack_DoingAgain => first | k_is | rfl)
    (case is_DoingAgain_Telling => first | k_is | rfl)
    (case is_DoingAgain_Telling_Clearing => first | k_is | rfl)
    case fin =>
      intro A D T e
      refine ⟨D.d_answers, fun s us hu => ?_, fun base _ _ => ?_⟩
      · obtain ⟨oc, od, kV, doc, pm, an, cdv, ct, osl, e1, _⟩ := T.f_answers.ex
        rw [e1]
        exact match us, hu with | [_], _ => .of_eq rfl
      · rw [← e]
        exact Ho.ok_answers T
  case S =>
    intro K H xs a hO hwi hask hx
    cases hx with
    | cons h1 h2 =>
      cases h2
      cases h1 with
      | lst hs ha =>
        have e := L2.ints_dw a.1 _ ha
        subst e
        have q : ((Codec.inLen 0 1300 a.1 && a.1.all (Codec.inInt 0 18446744073709551615)) && true) = true := hwi
        rw [Bool.and_eq_true, Bool.and_eq_true] at q
        have hask' : PySq36.answers_asked a.1 = true := hask
        obtain ⟨cs, p1, p2, p3⟩ := Ho.answers_run hask'
        refine ⟨_, a.1, cs, rfl, hs, p1, fun x hx => ?_, (Codec.inNat_iff.mp q.1.1).2, p3, fun H' p hp => ?_⟩
        · exact (Codec.inInt_iff.mp (List.all_eq_true.mp q.1.2 x hx)).1
        · have z := congrArg (fun l => WData.list (l.map WData.int)) p2
          refine Eq.mp (congrArg (L2.Dw K H' (.ref p)) z.symm) (.lst (L2.SqL.of hp) (L2.dw_ints _))
end
